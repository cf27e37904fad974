import Derived.Test.YtmbefonnkkhfgaaGreatDoorQ43
import Derived.Test.YtmbefonnkkhfgaaGreatDoorQ33
import Derived.Test.YtmbefonnkkhfgaaGreatDoorQ44
import Derived.Test.YtmbefonnkkhfgaaGreatDoorQ49
import Derived.Test.YtmbefonnkkhfgaaGreatDoorQ46
import Derived.Test.YtmbefonnkkhfgaaGreatDoorQ47
import Derived.Test.YtmbefonnkkhfgaaGreatDoorQ22
import Derived.Test.YtmbefonnkkhfgaaGreatDoorQ17
import Derived.Deep.RegionHeld
import Derived.Test.YtmbefonnkkhfgaaGreatDoorQ31
import Derived.Test.YtmbefonnkkhfgaaGreatDoorQ00
import Derived.Test.YtmbefonnkkhfgaaGreatDoorQ42
import Derived.Test.YtmbefonnkkhfgaaGreatDoorQ08
import Derived.BigQuiet
set_option linter.unusedVariables false
set_option maxRecDepth 100000
set_option maxHeartbeats 16000000
namespace Go.Proofs.YtmbefonnkkhfgaaGreatDoor
section
open Go.RowKit Go.Sort
theorem sz_pick(t:ByteArray):∃Wd H,∀L,pTree t=.ok L->Sz L Wd H:=by
 cases hp:pTree t with
 |error x=>exact⟨fun _=>0,fun _ _=>0,fun L q=>by cases q⟩
 |ok L=>obtain⟨Wd,H,hS⟩:=sz_ex (parse_tree (parse_of_ok hp)).nest;exact⟨Wd,H,fun L' q=>by cases q;exact hS⟩
end
section
open Go.RowKit Go.Sort Go.Proofs.Tryz
def LyOut(U U':World)(w h:Int)(idf off:Nat->Int)(sn:Nat)(r:Except (Option (Nat×Nat)) (List Nd))(e:Ending):Prop:=Below U.heap.size U U'∧match r with
 |.error x=>e=.returned (.tuple #[.slice none 0 0,Iq (errC x:Int),Iq (errP x:Int)])
 |.ok L=>(¬(1≤w∧w≤400∧1≤h∧h≤400)∧e=.returned (.tuple #[.slice none 0 0,Iq 6,Iq 0]))∨((1≤w∧w≤400∧1≤h∧h≤400)∧∃pb P Wd H,Sz L Wd H∧e=.returned (.tuple #[Sq pb L.length L.length,Iq 0,Iq 0])∧U'.rowIs pb 63 (L.length*10) (pcF P)∧PlTo L Wd H w h idf off sn P L.length∧U.heap.size≤pb)
def LyAt(U U':World)(w h:Int)(idf off:Nat->Int)(sn:Nat)(Wd:Nat->Int)(H:Nat->Int->Int)(r:Except (Option (Nat×Nat)) (List Nd))(e:Ending):Prop:=Below U.heap.size U U'∧match r with
 |.error x=>e=.returned (.tuple #[.slice none 0 0,Iq (errC x:Int),Iq (errP x:Int)])
 |.ok L=>(¬(1≤w∧w≤400∧1≤h∧h≤400)∧e=.returned (.tuple #[.slice none 0 0,Iq 6,Iq 0]))∨((1≤w∧w≤400∧1≤h∧h≤400)∧∃pb P,e=.returned (.tuple #[Sq pb L.length L.length,Iq 0,Iq 0])∧U'.rowIs pb 63 (L.length*10) (pcF P)∧PlTo L Wd H w h idf off sn P L.length∧U.heap.size≤pb)
theorem layout_at(t:ByteArray)(w h:Int)(sp:Option Addr)(sn sc:Nat)(idf off:Nat->Int)(E:Nat->Addr)(U:World)(hG:Glo U E)(hA:Apart U E)(hE:ErT U)(ht:TabAt U)(hsc:Scr U sp sn idf off)(hsn:sn≤4611686018427387904)(hsp:∀a:Addr,sp=some a->a.block<U.heap.size)(Wd:Nat->Int)(H:Nat->Int->Int)(hSz:∀L,pTree t=.ok L->Sz L Wd H):
 Calls prog 12 #[.string t,Iq w,Iq h,.slice sp sn sc] U fun e U'=>LyAt U U' w h idf off sn Wd H (pTree t) e:=by
 have HSz:Hid (∀L,pTree t=.ok L->Sz L Wd H):=hSz;clear hSz;have TP:Hid (Calls prog 13 #[.string t] U fun e w'=>TpOut U w' e (pTree t)):=tparse_any t E U hG hA hE;have SD:Hid (∀n u,Calls prog 23 #[Iq n] u fun e w'=>e=.returned (.bool (decide (1≤n∧n≤400)))∧w'=u):=isSide_any;have HT:Hid (TabAt U∧Scr U sp sn idf off):=⟨ht,hsc⟩;clear hG hA hE ht hsc;go_enter func12,ntmps12;go_wp2_with fail;refine TP.mono ?_;rintro e U1 ⟨hb1,hr⟩;have HB1:Hid (Below U.heap.size U U1):=hb1;clear hb1 TP;cases hp:pTree t with
 |error x=>
  rw[hp]at hr;subst hr;have hx:(errC x:Int)≠0:=by have:=err_pos hp;omega
  have hx2:((errC x:Int)!=0)=true:=by simpa using hx
  have HPP:Hid (pTree t=.error x):=hp;obtain⟨c,hc⟩:∃z:Int,(errC x:Int)=z:=⟨_,rfl⟩;have HCE:Hid ((errC x:Int)=c):=hc;rw[hc]at hx hx2⊢;clear hp hc;go_wp2;refine bodyPost_ret (results_tmp3 rfl _ _ _) rfl ?_;rw[HPP.out];exact⟨HB1,by show _=_;rw[HCE.out];rfl⟩
 |ok L=>
  rw[hp]at hr;obtain⟨nv,KV,rfl,hn⟩:=hr;have hT:Tree t L:=parse_tree (parse_of_ok hp);have hS:=HSz L hp;have hpos:=hT.pos;obtain⟨g,cap,rfl⟩:∃g cap,nv=Sq g L.length cap:=by
   obtain⟨xs,hx⟩:=hn.nr.row;rcases own_form hx with⟨_,h0⟩|⟨g,cap,e,_⟩;·omega
   ·exact⟨g,cap,e⟩
  have HN:Hid (PN U1 U.heap.size (Sq g L.length cap) L KV):=hn;have HPP:Hid (pTree t=.ok L):=hp;clear hn hp;by_cases hw:1≤w∧w≤400
  ·by_cases hh:1≤h∧h≤400
   ·have S1:Hid (∀u,Calls prog 23 #[Iq w] u fun e w'=>e=.returned (.bool true)∧w'=u):=fun u=>by have:=SD w u;rw[decide_eq_true hw]at this;exact this
    have S2:Hid (∀u,Calls prog 23 #[Iq h] u fun e w'=>e=.returned (.bool true)∧w'=u):=fun u=>by have:=SD h u;rw[decide_eq_true hh]at this;exact this
    have NM:Hid (Calls prog 24 #[Sq g L.length cap] U1 fun e u'=>∃mb r wb,e=.returned (Pq mb)∧Hid (Below U1.heap.size U1 u'∧Hs u' mb r g cap wb L KV Wd H 0∧U1.heap.size≤r)):=by refine(newMeasure_any g cap hT hS U1 _ HN (HT.1.below HB1)).mono ?_;rintro e u' ⟨mb,r,wb,h1,h2,h3,h4⟩;exact⟨mb,r,wb,h1,h2,h3,h4⟩
    have PL:Hid (∀u mb r wb,Below U1.heap.size U1 u->Hs u mb r g cap wb L KV Wd H 0->Calls prog 25 #[Pq mb,Iq w,Iq h,.slice sp sn sc] u fun e u'=>∃pb,e=.returned (Sq pb L.length L.length)∧Hid (∃P,u'.rowIs pb 63 (L.length*10) (pcF P)∧PlTo L Wd H w h idf off sn P L.length∧u.grownBy u' (some r)∧u.heap.size≤pb)):=fun u mb r wb hu hHs=>by have hbu:=HB1.trans (hu.mono HB1.size);refine(places_any mb r g cap wb hT hS w h sp sn sc idf off u hHs hw hh (HT.2.below hbu) hsn (fun a e=>Nat.lt_of_lt_of_le (hsp a e) hbu.size)).mono ?_;rintro e u' ⟨pb,P,h1,h2,h3,h4,h5⟩;exact⟨pb,h1,P,h2,h3,h4,h5⟩
    clear SD HT;go_wp2_with(first|(go_at_call 23;(with_reducible refine Calls.mono (S1.out _) ?_);rintro e u5 ⟨rfl,h5⟩;obtain rfl:=h5.symm)|(go_at_call 23;(with_reducible refine Calls.mono (S2.out _) ?_);rintro e u5 ⟨rfl,h5⟩;obtain rfl:=h5.symm)|(go_at_call 24;refine Calls.mono NM.out ?_;rintro e u6 ⟨mb,r,wb,rfl,HH⟩)|(go_at_call 25;refine Calls.mono (PL.out _ _ _ _ HH.out.1 HH.out.2.1) ?_;rintro e u7 ⟨pb,rfl,HZ⟩));all_goals refine bodyPost_ret (results_tmp3 rfl _ _ _) rfl ?_;rw[HPP.out];obtain⟨P,z1,z2,z3,z4⟩:=HZ.out;obtain⟨q1,q2,q3⟩:=HH.out;have hb1:=HB1.out;have hb6:=hb1.trans (q1.mono hb1.size);have hle:=hb1.size;have hle6:=hb6.size;refine⟨hb6.grown z3 hle6 (fun k hk=>by injection hk with hk;omega),?_⟩;exact .inr ⟨⟨hw.1,hw.2,hh.1,hh.2⟩,pb,P,rfl,z1,z2,by omega⟩
   ·have S1:Hid (∀u,Calls prog 23 #[Iq w] u fun e w'=>e=.returned (.bool true)∧w'=u):=fun u=>by have:=SD w u;rw[decide_eq_true hw]at this;exact this
    have S2:Hid (∀u,Calls prog 23 #[Iq h] u fun e w'=>e=.returned (.bool false)∧w'=u):=fun u=>by have:=SD h u;rw[decide_eq_false hh]at this;exact this
    clear SD HT HN;go_wp2_with(first|(go_at_call 23;(with_reducible refine Calls.mono (S1.out _) ?_);rintro e u5 ⟨rfl,h5⟩;obtain rfl:=h5.symm)|(go_at_call 23;(with_reducible refine Calls.mono (S2.out _) ?_);rintro e u5 ⟨rfl,h5⟩;obtain rfl:=h5.symm));all_goals refine bodyPost_ret (results_tmp3 rfl _ _ _) rfl ?_;rw[HPP.out];exact⟨HB1,.inl ⟨fun q=>hh ⟨q.2.2.1,q.2.2.2⟩,rfl⟩⟩
  ·have S1:Hid (∀u,Calls prog 23 #[Iq w] u fun e w'=>e=.returned (.bool false)∧w'=u):=fun u=>by have:=SD w u;rw[decide_eq_false hw]at this;exact this
   clear SD HT HN;go_wp2_with(go_at_call 23;refine Calls.mono (S1 _) ?_;rintro e u5 ⟨rfl,h5⟩;obtain rfl:=h5.symm);all_goals refine bodyPost_ret (results_tmp3 rfl _ _ _) rfl ?_;rw[HPP.out];exact⟨HB1,.inl ⟨fun q=>hw ⟨q.1,q.2.1⟩,rfl⟩⟩
theorem layout_any(t:ByteArray)(w h:Int)(sp:Option Addr)(sn sc:Nat)(idf off:Nat->Int)(E:Nat->Addr)(U:World)(hG:Glo U E)(hA:Apart U E)(hE:ErT U)(ht:TabAt U)(hsc:Scr U sp sn idf off)(hsn:sn≤4611686018427387904)(hsp:∀a:Addr,sp=some a->a.block<U.heap.size):
 Calls prog 12 #[.string t,Iq w,Iq h,.slice sp sn sc] U fun e U'=>LyOut U U' w h idf off sn (pTree t) e:=by
 obtain⟨Wd,H,hS⟩:=sz_pick t;refine(layout_at t w h sp sn sc idf off E U hG hA hE ht hsc hsn hsp Wd H hS).mono ?_;rintro e U' ⟨hb,q⟩;refine⟨hb,?_⟩;cases hp:pTree t with
 |error x=>rw[hp]at q;exact q
 |ok L=>
  rw[hp]at q;rcases q with q|⟨q1,pb,P,q2,q3,q4,q5⟩;·exact .inl q
  ·exact .inr ⟨q1,pb,P,Wd,H,hS L hp,q2,q3,q4,q5⟩
end
section
open Go.RowKit Go.Sort Go.Proofs.Tryz
def frK(W H:Nat)(L:List Nd)(P:Nat->Nat->Int):Nat->Nat->Nat->Ce
 |0=>fun _ _=>bk 0 0 0
 |k+1=>pnF W H (sty L k).1 (sty L k).2.1 (sty L k).2.2 (P k 4) (P k 5) (P k 6) (P k 7) (nth L k).kind (atN (nth L k) 6) (atN (nth L k) 7) (atN (nth L k) 8) (atN (nth L k) 10) (nth L k).text (P k 0) (P k 1) (P k 2) (P k 3) (frK W H L P k)
theorem frK_keep{W H:Nat}{Q:(Nat->Nat->Ce)->Prop}{L:List Nd}{P:Nat->Nat->Int}(h0:Q (fun _ _=>bk 0 0 0))(hf:∀c x y w hh f g bd cx cy ca cb,Q c->Q (filC W H c x y w hh f g bd cx cy ca cb))(hs:∀f g bd cx cy ca cb x y s c,Q c->Q (wrL W H f g bd cx cy ca cb x y s c)):∀k,Q (frK W H L P k)
 |0=>h0
 |k+1=>pnF_keep (fun c hc=>hf c _ _ _ _ _ _ _ _ _ _ _ hc) (fun x y s c hc=>hs _ _ _ _ _ _ _ x y s c hc) (frK_keep h0 hf hs k)
theorem PAll.blank(W H:Nat):PAll W H (fun _ _=>bk 0 0 0):=fun y hy=>⟨fun i hi=>.inl rfl,fun i hi h=>(by cases h),fun i hi h=>(by cases h)⟩
theorem PAll.frK{W H:Nat}(hW:1≤W∧W≤400)(hH:1≤H∧H≤400)(L:List Nd)(P:Nat->Nat->Int)(k:Nat):PAll W H (frK W H L P k):=
 frK_keep (Q:=PAll W H) (PAll.blank W H) (fun c _ _ _ _ _ _ _ _ _ _ _ hc=>hc.filX hW hH _ _ _ _ _ _ _ _ _ _ _) (fun _ _ _ _ _ _ _ _ _ _ c hc=>hc.wrL hW hH _ _ _ _ _ _ _ _ _ _) k
def FrOut(U U':World)(w h:Int)(idf off:Nat->Int)(sn:Nat)(r:Except (Option (Nat×Nat)) (List Nd))(e:Ending):Prop:=Below U.heap.size U U'∧match r with
 |.error x=>e=.returned (.tuple #[.slice none 0 0,Iq (errC x:Int),Iq (errP x:Int)])
 |.ok L=>(¬(1≤w∧w≤400∧1≤h∧h≤400)∧e=.returned (.tuple #[.slice none 0 0,Iq 6,Iq 0]))∨∃W H:Nat,w=W∧h=H∧(1≤W∧W≤400)∧(1≤H∧H≤400)∧∃N cap P Wd Hf,Sz L Wd Hf∧PlTo L Wd Hf w h idf off sn P L.length∧e=.returned (.tuple #[Sq N (W*H) cap,Iq 0,Iq 0])∧Cv 34 U' N W H (frK W H L P L.length)∧U.heap.size≤N
def R8(u:World)(B K:Nat)(f0 f1 f2 c0 c1 c2 c3:Int):Prop:=u.heap[B]?=some (.cells #[Pq K,Iq f0,Iq f1,Iq f2,Iq c0,Iq c1,Iq c2,Iq c3] 58 (0,0))
theorem Chm.drewn{M:Nat}{W W':World}(h:Chm M W W'):Chm M W W'.drew:=⟨h.os,h.tape,h.output,h.size,h.block⟩
section
variable{u:World} {B K:Nat} {f0 f1 f2 c0 c1 c2 c3:Int}
theorem R8.s1(h:R8 u B K f0 f1 f2 c0 c1 c2 c3)(v:Int):R8 (u.setCell ⟨B,1,none⟩ (.int .i64 v)) B K v f1 f2 c0 c1 c2 c3:=heap_setCell_same _ B 1 _ _ _ h
theorem R8.s2(h:R8 u B K f0 f1 f2 c0 c1 c2 c3)(v:Int):R8 (u.setCell ⟨B,2,none⟩ (.int .i64 v)) B K f0 v f2 c0 c1 c2 c3:=heap_setCell_same _ B 2 _ _ _ h
theorem R8.s3(h:R8 u B K f0 f1 f2 c0 c1 c2 c3)(v:Int):R8 (u.setCell ⟨B,3,none⟩ (.int .i64 v)) B K f0 f1 v c0 c1 c2 c3:=heap_setCell_same _ B 3 _ _ _ h
theorem R8.s4(h:R8 u B K f0 f1 f2 c0 c1 c2 c3)(v:Int):R8 (u.setCell ⟨B,4,none⟩ (.int .i64 v)) B K f0 f1 f2 v c1 c2 c3:=heap_setCell_same _ B 4 _ _ _ h
theorem R8.s5(h:R8 u B K f0 f1 f2 c0 c1 c2 c3)(v:Int):R8 (u.setCell ⟨B,5,none⟩ (.int .i64 v)) B K f0 f1 f2 c0 v c2 c3:=heap_setCell_same _ B 5 _ _ _ h
theorem R8.s6(h:R8 u B K f0 f1 f2 c0 c1 c2 c3)(v:Int):R8 (u.setCell ⟨B,6,none⟩ (.int .i64 v)) B K f0 f1 f2 c0 c1 v c3:=heap_setCell_same _ B 6 _ _ _ h
theorem R8.s7(h:R8 u B K f0 f1 f2 c0 c1 c2 c3)(v:Int):R8 (u.setCell ⟨B,7,none⟩ (.int .i64 v)) B K f0 f1 f2 c0 c1 c2 v:=heap_setCell_same _ B 7 _ _ _ h
theorem R8.dr(h:R8 u B K f0 f1 f2 c0 c1 c2 c3):R8 u.drew B K f0 f1 f2 c0 c1 c2 c3:=h
theorem R8.seven(h:R8 u B K f0 f1 f2 c0 c1 c2 c3)(s0 s1 s2 s3 s4 s5 s6:Int):R8 (((((((u.setCell ⟨B,1,none⟩ (.int .i64 s0)).setCell ⟨B,2,none⟩ (.int .i64 s1)).setCell ⟨B,3,none⟩ (.int .i64 s2)).setCell ⟨B,4,none⟩ (.int .i64 s3)).setCell ⟨B,5,none⟩ (.int .i64 s4)).setCell ⟨B,6,none⟩ (.int .i64 s5)).setCell ⟨B,7,none⟩ (.int .i64 s6)).drew B K s0 s1 s2 s3 s4 s5 s6:=
 (((((((h.s1 s0).s2 s1).s3 s2).s4 s3).s5 s4).s6 s5).s7 s6).dr
end
theorem pframe_any(t:ByteArray)(w h:Int)(sp:Option Addr)(sn sc:Nat)(idf off:Nat->Int)(E:Nat->Addr)(U:World)(hG:Glo U E)(hA:Apart U E)(hE:ErT U)(ht:TabAt U)(hsc:Scr U sp sn idf off)(hsn:sn≤4611686018427387904)(hsp:∀a:Addr,sp=some a->a.block<U.heap.size):
 Calls prog 6 #[.string t,Iq w,Iq h,.slice sp sn sc] U fun e U'=>FrOut U U' w h idf off sn (pTree t) e:=by
 have LY:Hid (Calls prog 12 #[.string t,Iq w,Iq h,.slice sp sn sc] U fun e U'=>LyOut U U' w h idf off sn (pTree t) e):=layout_any t w h sp sn sc idf off E U hG hA hE ht hsc hsn hsp;cases hp:pTree t with
 |error x=>
  rw[hp]at LY;have hx:(errC x:Int)≠0:=by have:=err_pos hp;omega
  obtain⟨c,hc⟩:∃z:Int,(errC x:Int)=z:=⟨_,rfl⟩;obtain⟨d,hd⟩:∃z:Int,(errP x:Int)=z:=⟨_,rfl⟩;have LY2:Hid (Calls prog 12 #[.string t,Iq w,Iq h,.slice sp sn sc] U fun e u'=>e=.returned (.tuple #[.slice none 0 0,Iq c,Iq d])∧Hid (Below U.heap.size U u')):=LY.mono fun e w' q=>⟨by have:=q.2;dsimp only at this;rw[hc,hd]at this;exact this,q.1⟩;have hcx:(c==0)=false:=by rw[<-hc];simpa using hx
  have HC:=qH hc;have HD:=qH hd;clear LY hc hd hx;go_enter func6,ntmps6;go_wp2_with(go_at_call 12;refine LY2.mono ?_;rintro e U1 ⟨rfl,HB1⟩);refine bodyPost_ret (results_tmp3 rfl _ _ _) rfl ?_;refine⟨HB1,?_⟩;dsimp only;rw[HC.out,HD.out];rfl
 |ok L=>
  rw[hp]at LY;by_cases hr:1≤w∧w≤400∧1≤h∧h≤400;case neg=>
   have LY2:Hid (Calls prog 12 #[.string t,Iq w,Iq h,.slice sp sn sc] U fun e u'=>e=.returned (.tuple #[.slice none 0 0,Iq 6,Iq 0])∧Hid (Below U.heap.size U u')):=LY.mono fun e w' q=>by
    obtain⟨hb,q⟩:=q;rcases q with⟨_,q⟩|⟨q,_⟩;·exact⟨q,hb⟩
    ·exact absurd q hr
   clear LY;go_enter func6,ntmps6;go_wp2_with(go_at_call 12;refine LY2.mono ?_;rintro e U1 ⟨rfl,HB1⟩);refine bodyPost_ret (results_tmp3 rfl _ _ _) rfl ?_;exact⟨HB1,.inl ⟨hr,rfl⟩⟩
  have hT:Tree t L:=parse_tree (parse_of_ok hp);have hcnt:=hT.vl.cnt;have hpos:=hT.pos;obtain⟨W,rfl⟩:∃W:Nat,w=(W:Int):=⟨w.toNat,by omega⟩;obtain⟨H,rfl⟩:∃H:Nat,h=(H:Int):=⟨h.toNat,by omega⟩;have hW:1≤W∧W≤400:=by omega
  have hH:1≤H∧H≤400:=by omega
  have HT:=qH hT;have LY2:Hid (Calls prog 12 #[.string t,Iq W,Iq H,.slice sp sn sc] U fun e u'=>∃pb,e=.returned (.tuple #[Sq pb L.length L.length,Iq 0,Iq 0])∧Hid (Below U.heap.size U u')∧∃P Wd Hf,Hid (Sz L Wd Hf∧PlTo L Wd Hf W H idf off sn P L.length)∧Hid (u'.rowIs pb 63 (L.length*10) (pcF P))):=LY.mono fun e u' q=>by
   obtain⟨hb,q⟩:=q;rcases q with⟨q,_⟩|⟨_,pb,P,Wd,Hf,q1,q2,q3,q4,_⟩;·exact absurd hr q
   ·exact⟨pb,q2,hb,P,Wd,Hf,⟨q1,q4⟩,q3⟩
  have TP2:Hid (∀u,Below U.heap.size U u->Calls prog 13 #[.string t] u fun e w'=>∃g cap KV,e=.returned (.tuple #[Sq g L.length cap,Iq 0,Iq 0])∧Hid (NdV w' w'.heap.size g L KV)∧Hid (u.heap.size≤g)∧Hid (Below u.heap.size u w')):=fun u hu=>by
   have:=tparse_any t E u (hG.cells hu) (hA.below hu) (hE.below hu);rw[hp]at this;refine this.mono fun e w' q=>?_;obtain⟨hb,nv,KV,rfl,hn⟩:=q;obtain⟨g,cap,rfl,hug⟩:∃g cap,nv=Sq g L.length cap∧u.heap.size≤g:=by
    obtain⟨xs,hx⟩:=hn.nr.row;rcases own_form hx with⟨_,h0⟩|⟨g,cap,e,h1,_⟩;·omega
    ·exact⟨g,cap,e,h1⟩
   exact⟨g,cap,KV,rfl,hn.ndv (Nat.le_refl _),hug,hb⟩
  have ST:Hid (∀u r g cap KV,NdV u r g L KV->Calls prog 15 #[Sq g L.length cap] u fun e u'=>∃sb,e=.returned (Sq sb L.length L.length)∧Hid (WRow u' sb 0 L.length (fun j=>(sty L j).1) (fun j=>(sty L j).2.1) (fun j=>(sty L j).2.2))∧Hid (u.heap.size≤sb)∧Hid (Below u.heap.size u u')):=fun u r g cap KV hv=>stylesOf_any HT.gr.upl hcnt u r g cap hv;have NW:Hid (∀u,Calls prog 14 #[Iq W,Iq H] u fun e u'=>∃K M,e=.returned (.tuple #[Pq K,Iq 0])∧Hid (CS 89 34 u' K M (W*H) W H (fun _ _=>bk 0 0 0))∧Hid (u.heap.size≤K∧u.heap.size≤M)∧Hid (Below u.heap.size u u')):=fun u=>(new_ok W H u hW hH).mono fun e u' ⟨K,M,h1,h2,h3,h4,h5⟩=>⟨K,M,h1,h2,⟨h3,h4⟩,h5⟩;have HTB:=qH ht;clear LY hp hG hA hE hsc hsp ht hT;go_enter func6,ntmps6;go_wp2_with(first
   |(go_at_call 12;refine LY2.mono ?_;rintro e u1 ⟨pb,rfl,HB1,P,Wd,Hf,HPL,HPR⟩)
   |(go_at_call 13;refine Calls.mono (TP2 _ HB1) ?_;rintro e u2 ⟨g,cap,KV,rfl,HN2,HG2,HB2⟩)
   |(go_at_call 14;refine Calls.mono (NW _) ?_;rintro e u3 ⟨K,M,rfl,HC3,HK3,HB3⟩;have HN3:Hid (NdV u3 u2.heap.size g L KV):=HN2.grown (grown_of_below HB3))
   |(go_at_call 15;refine Calls.mono (ST _ _ _ _ _ HN3) ?_;rintro e u4 ⟨sb,rfl,HW4,HS4,HB4⟩)
   |fail);obtain⟨B,hB⟩:=nmd u4.heap.size;obtain⟨u5,hu5⟩:=nmd (u4.alloc (.cells #[Pq K,Iq 0,Iq 0,Iq 0,Iq 0,Iq 0,Iq 0,Iq 0] 58));have HR5:Hid (R8 u5 B K 0 0 0 0 0 0 0):=by rw[<-hu5,<-hB];exact heap_alloc_new _ _
  have HG5:Hid (Gr u4 u5):=by rw[<-hu5];exact(Gr.refl u4).alloc _
  have h12:=HB2.size;have h23:=HB3.size;have h34:=HB4.size;have h01:=HB1.size;have HU2:Hid (Below U.heap.size U u2):=HB1.trans (HB2.mono h01);have HU3:Hid (Below U.heap.size U u3):=HU2.trans (HB3.mono (by omega));have HU4:Hid (Below U.heap.size U u4):=HU3.trans (HB4.mono (by omega));have HU5:Hid (Below U.heap.size U u5):=HU4.trans (HG5.below.mono (by omega));have hKl:K<B:=by rw[<-hB];exact Nat.lt_of_lt_of_le HC3.klt h34
  have hMl:M<B:=by rw[<-hB];exact Nat.lt_of_lt_of_le HC3.cv.lt h34
  have hUB:U.heap.size≤B:=by rw[<-hB];omega
  have hUM:U.heap.size≤M:=by have:=HK3.out.2;omega
  have H35:Hid (Below u3.heap.size u3 u5):=HB4.trans (HG5.below.mono h34);have HC5:Hid (CS 89 34 u5 K M (W*H) W H (fun _ _=>bk 0 0 0)):=⟨(H35.block K HC3.klt).trans HC3.kb,HC3.cv.keep (H35.block M HC3.cv.lt),HC3.ne,HC3.hc⟩;have HN5:Hid (NdV u5 u2.heap.size g L KV):=HN3.grown (grown_of_below H35);have hgl:g<B:=by rw[<-hB];have:=HN3.gl;omega
  have hgM:g≠M:=by have:=HN2.gl;have:=HK3.out.2;omega
  have HW5:=qH<|HW4.below HG5.below;have hsl:sb<B:=by rw[<-hB];exact HW4.1
  have hsM:sb≠M:=by have:=HS4.out;have:=HC3.cv.lt;omega
  have HP5:Hid (u5.rowIs pb 63 (L.length*10) (pcF P)):=rowIs_below HPR ((HB2.trans (HB3.mono h12)).trans (H35.mono (by omega)));have hpl:pb<B:=by rw[<-hB];have:=HPR.lt;omega
  have hpM:pb≠M:=by have:=HPR.lt;have:=HK3.out.2;omega
  have H5:Hid (u5.heap.size=B+1):=by show _=_;rw[<-hu5,World.size_alloc,hB]
  rw[hu5,hB];obtain⟨n,hn⟩:=nmd L.length;have HLN:=qH hn;have hn100:n≤100:=by omega
  rw[hn];clear hn;clear HB1 HB2 HB3 HB4 HN2 HN3 HC3 HK3 HW4 HS4 HPR HG5 HU2 HU3 HU4 H35 hu5 hB LY2 TP2 ST NW HG2;go_loopw[54] (fun iv wr=>∃k:Nat,k≤n∧iv=Iq (k:Int)∧Hid (Cv 34 wr M W H (frK W H L P k))∧Hid (Below U.heap.size U wr)∧Hid (∀b,b<B->b≠M->wr.heap[b]?=u5.heap[b]?)∧Hid (B<wr.heap.size)∧∃f0 f1 f2 c0 c1 c2 c3,Hid (R8 wr B K f0 f1 f2 c0 c1 c2 c3)) (fun iv _=>n-(intOf iv).toNat);case atStart=>exact⟨0,Nat.zero_le _,rfl,HC5.cv,HU5,fun b _ _=>rfl,by show _<_;rw[H5.out];omega,_,_,_,_,_,_,_,HR5⟩
  case round=>
   obtain⟨k,hk,rfl,HV,HU,HKp,HBl,f0,f1,f2,c0,c1,c2,c3,HR⟩:=hrel;by_cases hlt:k<n
   ·have hlt':(k:Int)<(n:Int):=by omega
    have hkl:k<L.length:=by have:=HLN.out;omega
    have HND:Hid (∀(t:Nat) v,(pnCells (nth L k) (KV k))[t]?=some v->wr.cell? ⟨g,k*16+t,none⟩=some v):=fun t v hv=>(World.cell?_of_block (a:=⟨g,k*16+t,none⟩) (HKp g hgl hgM)).trans (HN5.nd k hkl t v hv);rw[pn_list (HN5.len k hkl)]at HND;obtain⟨pk,ck,hkv,_⟩:=HN5.kid k hkl;have HST:Hid (wr.cell? ⟨sb,k*3,none⟩=some (Iq (sty L k).1)∧wr.cell? ⟨sb,k*3+1,none⟩=some (Iq (sty L k).2.1)∧wr.cell? ⟨sb,k*3+2,none⟩=some (Iq (sty L k).2.2)):=by have q:=HW5.2 k hkl;rw[Nat.zero_add]at q;have e:=fun o=>World.cell?_of_block (a:=⟨sb,o,none⟩) (HKp sb hsl hsM);exact⟨(e _).trans q.1,(e _).trans q.2.1,(e _).trans q.2.2⟩
    have HPC:Hid (∀t,t<10->wr.cell? ⟨pb,k*10+t,none⟩=some (Iq (P k t))):=fun t ht=>(World.cell?_of_block (a:=⟨pb,k*10+t,none⟩) (HKp pb hpl hpM)).trans (pc_cell HP5 hkl ht);have hbd:=HPL.2.bd k hkl;have hon:=HPL.2.onScr HT (by omega) (by omega) (k+1) k (by omega) hkl;have htl:=HT.vl.tl k hkl;have hsz:=HT.sz;have HFK:Hid (frK W H L P (k+1)=pnF W H (sty L k).1 (sty L k).2.1 (sty L k).2.2 (P k 4) (P k 5) (P k 6) (P k 7) (nth L k).kind (atN (nth L k) 6) (atN (nth L k) 7) (atN (nth L k) 8) (atN (nth L k) 10) (nth L k).text (P k 0) (P k 1) (P k 2) (P k 3) (frK W H L P k)):=rfl;rw[hkv]at HND;have y0:wr.cell? ⟨pb,k*10,none⟩=some (Iq (P k 0)):=HPC 0 (by omega);have y1:wr.cell? ⟨pb,k*10+1,none⟩=some (Iq (P k 1)):=HPC 1 (by omega);have y2:wr.cell? ⟨pb,k*10+2,none⟩=some (Iq (P k 2)):=HPC 2 (by omega);have y3:wr.cell? ⟨pb,k*10+3,none⟩=some (Iq (P k 3)):=HPC 3 (by omega);have y4:wr.cell? ⟨pb,k*10+4,none⟩=some (Iq (P k 4)):=HPC 4 (by omega);have y5:wr.cell? ⟨pb,k*10+5,none⟩=some (Iq (P k 5)):=HPC 5 (by omega);have y6:wr.cell? ⟨pb,k*10+6,none⟩=some (Iq (P k 6)):=HPC 6 (by omega);have y7:wr.cell? ⟨pb,k*10+7,none⟩=some (Iq (P k 7)):=HPC 7 (by omega);obtain⟨st0,st1,st2⟩:=HST.out;unfold OnScr at hon;generalize P k 0=p0 at y0 HFK hbd;generalize P k 1=p1 at y1 HFK hbd;generalize P k 2=p2 at y2 HFK hbd;generalize P k 3=p3 at y3 HFK hbd;generalize P k 4=p4 at y4 HFK hon;generalize P k 5=p5 at y5 HFK hon;generalize P k 6=p6 at y6 HFK hon;generalize P k 7=p7 at y7 HFK hon;generalize(sty L k).1=s0 at st0 HFK;generalize(sty L k).2.1=s1 at st1 HFK;generalize(sty L k).2.2=s2 at st2 HFK;generalize((nth L k).kind:Int)=kd at HND HFK;generalize atN (nth L k) 0=a0 at HND;generalize atN (nth L k) 1=a1 at HND;generalize atN (nth L k) 2=a2 at HND;generalize atN (nth L k) 3=a3 at HND;generalize atN (nth L k) 4=a4 at HND;generalize atN (nth L k) 5=a5 at HND;generalize atN (nth L k) 6=a6 at HND HFK;generalize atN (nth L k) 7=a7 at HND HFK;generalize atN (nth L k) 8=a8 at HND HFK;generalize atN (nth L k) 9=a9 at HND;generalize atN (nth L k) 10=b0 at HND HFK;generalize atN (nth L k) 11=b1 at HND;generalize(nth L k).up=up at HND;generalize(nth L k).kids.length=kl at HND;obtain⟨tx,htx⟩:∃z:ByteArray,⟨(nth L k).text.toArray⟩=z:=⟨_,rfl⟩;have htd:tx.data.toList=(nth L k).text:=by rw[<-htx]
    have hts:tx.size≤100000:=by rw[<-htx];show(nth L k).text.toArray.size≤_;rw[List.size_toArray];omega
    rw[htx]at HND;rw[<-htd]at HFK;have q0:wr.cell? ⟨g,k*16,none⟩=some (Iq kd):=HND 0 _ rfl;have q1:=HND 1 _ rfl;have q2:=HND 2 _ rfl;have q3:=HND 3 _ rfl;have q4:=HND 4 _ rfl;have q5:=HND 5 _ rfl;have q6:=HND 6 _ rfl;have q7:=HND 7 _ rfl;have q8:=HND 8 _ rfl;have q9:=HND 9 _ rfl;have q10:=HND 10 _ rfl;have q11:=HND 11 _ rfl;have q12:=HND 12 _ rfl;have q13:=HND 13 _ rfl;have q14:=HND 14 _ rfl;have q15:=HND 15 _ rfl;obtain⟨A,hA⟩:=nmd wr.heap.size;obtain⟨W1,hW1⟩:=nmd (wr.alloc (.cells #[Iq kd,Iq a0,Iq a1,Iq a2,Iq a3,Iq a4,Iq a5,Iq a6,Iq a7,Iq a8,Iq a9,Iq b0,Iq b1,.string tx,.slice pk kl ck,Iq up] 61));have HG1:Hid (Gr wr W1):=by rw[<-hW1];exact(Gr.refl wr).alloc _
    have hn1:W1.heap[A]?=some (.cells #[Iq kd,Iq a0,Iq a1,Iq a2,Iq a3,Iq a4,Iq a5,Iq a6,Iq a7,Iq a8,Iq a9,Iq b0,Iq b1,.string tx,.slice pk kl ck,Iq up] 61 (0,0)):=by rw[<-hW1,<-hA];exact heap_alloc_new _ _
    have hr1:R8 W1 B K f0 f1 f2 c0 c1 c2 c3:=(HG1.block HBl).trans HR;have hBA:B<A:=by rw[<-hA];exact HBl
    have x0:=cell_up HG1.below y0;have x1:=cell_up HG1.below y1;have x2:=cell_up HG1.below y2;have x3:=cell_up HG1.below y3;have x4:=cell_up HG1.below y4;have x5:=cell_up HG1.below y5;have x6:=cell_up HG1.below y6;have x7:=cell_up HG1.below y7;have v0:=cell_up HG1.below st0;have v1:=cell_up HG1.below st1;have v2:=cell_up HG1.below st2;have r0:W1.cell? ⟨B,0,none⟩=some (Pq K):=by rw[Lib.cell_of_heap (show W1.heap[B]?=_ from hr1)];rfl
    have r1:W1.cell? ⟨B,1,none⟩=some (Iq f0):=by rw[Lib.cell_of_heap (show W1.heap[B]?=_ from hr1)];rfl
    have r2:W1.cell? ⟨B,2,none⟩=some (Iq f1):=by rw[Lib.cell_of_heap (show W1.heap[B]?=_ from hr1)];rfl
    have r3:W1.cell? ⟨B,3,none⟩=some (Iq f2):=by rw[Lib.cell_of_heap (show W1.heap[B]?=_ from hr1)];rfl
    have r4:W1.cell? ⟨B,4,none⟩=some (Iq c0):=by rw[Lib.cell_of_heap (show W1.heap[B]?=_ from hr1)];rfl
    have r5:W1.cell? ⟨B,5,none⟩=some (Iq c1):=by rw[Lib.cell_of_heap (show W1.heap[B]?=_ from hr1)];rfl
    have r6:W1.cell? ⟨B,6,none⟩=some (Iq c2):=by rw[Lib.cell_of_heap (show W1.heap[B]?=_ from hr1)];rfl
    have r7:W1.cell? ⟨B,7,none⟩=some (Iq c3):=by rw[Lib.cell_of_heap (show W1.heap[B]?=_ from hr1)];rfl
    have hfz:∀j,W1.frozen? ⟨B,j,none⟩=false:=fun j=>frozen_of_row _ _ _ _ _ hr1;have HR1:=qH hr1;have HN1:=qH hn1;clear HND hkv htx htd HST HPC HR hr1 hn1 htl;go_wp2_with fail;clear hW1 hA q0 q1 q2 q3 q4 q5 q6 q7 q8 q9 q10 q11 q12 q13 q14 q15 y0 y1 y2 y3 y4 y5 y6 y7 st0 st1 st2;go_region;obtain⟨W2,hW2⟩:=nmd (((((((W1.setCell ⟨B,1,none⟩ (.int .i64 s0)).setCell ⟨B,2,none⟩ (.int .i64 s1)).setCell ⟨B,3,none⟩ (.int .i64 s2)).setCell ⟨B,4,none⟩ (.int .i64 p4)).setCell ⟨B,5,none⟩ (.int .i64 p5)).setCell ⟨B,6,none⟩ (.int .i64 p6)).setCell ⟨B,7,none⟩ (.int .i64 p7)).drew;have HR2:Hid (R8 W2 B K s0 s1 s2 p4 p5 p6 p7):=by rw[<-hW2];exact HR1.seven s0 s1 s2 p4 p5 p6 p7
    have HC2:Hid (Chm B W1 W2):=by rw[<-hW2];exact((((((((Chm.refl B W1).set (.inl rfl) 1 _).set (.inl rfl) 2 _).set (.inl rfl) 3 _).set (.inl rfl) 4 _).set (.inl rfl) 5 _).set (.inl rfl) 6 _).set (.inl rfl) 7 _).drewn
    rw[hW2];clear hW2;have HSZ:Hid (A<W1.heap.size):=(Array.getElem?_eq_some_iff.1 HN1).1;have HZ2:=qH HC2.size;have HL2:Hid (∀b,b<B->W2.heap[b]?=wr.heap[b]?):=fun b hb=>(HC2.block b (by have:=HSZ.out;omega) (by omega)).trans (HG1.block (by have:=HBl.out;omega));have HU2:Hid (Below U.heap.size U W2):=HC2.low hUB (by have:=HSZ.out;omega) (HU.trans (HG1.below.mono (by have:=HBl.out;omega)));have HCS:Hid (CS 89 34 W2 K M (W*H) W H (frK W H L P k)):=⟨(HL2 K hKl).trans ((HKp K hKl HC5.ne).trans HC5.kb),HV.keep (HL2 M hMl),HC5.ne,HC5.hc⟩;have HS:Hid (∀u,Chm M W2 u->u.cell? ⟨B,0,none⟩=some (Pq K)∧u.cell? ⟨B,1,none⟩=some (Iq s0)∧u.cell? ⟨B,2,none⟩=some (Iq s1)∧u.cell? ⟨B,3,none⟩=some (Iq s2)∧u.cell? ⟨B,4,none⟩=some (Iq p4)∧u.cell? ⟨B,5,none⟩=some (Iq p5)∧u.cell? ⟨B,6,none⟩=some (Iq p6)∧u.cell? ⟨B,7,none⟩=some (Iq p7)∧u.cell? ⟨A,0,none⟩=some (Iq kd)∧u.cell? ⟨A,1,none⟩=some (Iq a0)∧u.cell? ⟨A,2,none⟩=some (Iq a1)∧u.cell? ⟨A,3,none⟩=some (Iq a2)∧u.cell? ⟨A,4,none⟩=some (Iq a3)∧u.cell? ⟨A,5,none⟩=some (Iq a4)∧u.cell? ⟨A,6,none⟩=some (Iq a5)∧u.cell? ⟨A,7,none⟩=some (Iq a6)∧u.cell? ⟨A,8,none⟩=some (Iq a7)∧u.cell? ⟨A,9,none⟩=some (Iq a8)∧u.cell? ⟨A,10,none⟩=some (Iq a9)∧u.cell? ⟨A,11,none⟩=some (Iq b0)∧u.cell? ⟨A,12,none⟩=some (Iq b1)∧u.cell? ⟨A,13,none⟩=some (.string tx)∧u.cell? ⟨A,14,none⟩=some (.slice pk kl ck)∧u.cell? ⟨A,15,none⟩=some (Iq up)∧u.cell? ⟨pb,k*10,none⟩=some (Iq p0)∧u.cell? ⟨pb,k*10+1,none⟩=some (Iq p1)∧u.cell? ⟨pb,k*10+2,none⟩=some (Iq p2)∧u.cell? ⟨pb,k*10+3,none⟩=some (Iq p3)):=fun u hu=>by
     have e1:=(hu.block B (by have:=HSZ.out;have:=HZ2.out;omega) (by omega)).trans HR2;have e2:=(hu.block A (by have:=HSZ.out;have:=HZ2.out;omega) (by omega)).trans ((HC2.block A HSZ (by omega)).trans HN1);have e3:=fun o=>World.cell?_of_block (a:=⟨pb,o,none⟩) ((hu.block pb (by have:=HSZ.out;have:=HZ2.out;omega) hpM).trans (HC2.block pb (by have:=HSZ.out;omega) (by omega)));refine⟨?_,?_,?_,?_,?_,?_,?_,?_,?_,?_,?_,?_,?_,?_,?_,?_,?_,?_,?_,?_,?_,?_,?_,?_,(e3 _).trans x0,(e3 _).trans x1,(e3 _).trans x2,(e3 _).trans x3⟩;all_goals first
      |(rw[Lib.cell_of_heap e1];rfl)
      |(rw[Lib.cell_of_heap e2];rfl)
    have PA:Hid (∀u,u=W2∨u=W2.drew->Calls prog 16 #[.agg #[Pq K,Iq s0,Iq s1,Iq s2,Iq p4,Iq p5,Iq p6,Iq p7],.agg #[Iq kd,Iq a0,Iq a1,Iq a2,Iq a3,Iq a4,Iq a5,Iq a6,Iq a7,Iq a8,Iq a9,Iq b0,Iq b1,.string tx,.slice pk kl ck,Iq up],.agg #[Iq p0,Iq p1,Iq p2,Iq p3]] u fun e u'=>e=.returned (.tuple #[])∧Hid (Cv 34 u' M W H (frK W H L P (k+1)))∧Hid (Chm M W2 u')):=fun u hu=>by
     have hcu:Chm M W2 u:=by rcases hu with rfl|rfl<;>first|exact Chm.refl _ _|exact(Chm.refl _ _).drewn
     have hku:∀b:Nat,u.heap[b]?=W2.heap[b]?:=by rcases hu with rfl|rfl<;>exact fun _=>rfl
     rw[HFK.out];refine(paint_any U u (K:=K) (M:=M) (cap:=W*H) ⟨(hku K).trans HCS.kb,HCS.cv.keep (hku M),HCS.ne,HCS.hc⟩ hW hH (PAll.frK hW hH L P k) HTB (hcu.low hUM (by have:=HU2.size;omega) HU2) hUM s0 s1 s2 p4 p5 p6 p7 kd a0 a1 a2 a3 a4 a5 a6 a7 a8 a9 b0 b1 up tx (.slice pk kl ck) p0 p1 p2 p3 hts ?_ ?_ ?_ ?_ ?_ ?_).mono fun e u' q=>⟨q.1,q.2.1,hcu.trans q.2.2⟩;all_goals omega
    obtain⟨g0,g1,g2,g3,g4,g5,g6,g7,g8,g9,g10,g11,g12,g13,g14,g15,g16,g17,g18,g19,g20,g21,g22,g23,g24,g25,g26,g27⟩:=HS W2 (Chm.refl _ _);clear x0 x1 x2 x3 x4 x5 x6 x7 v0 v1 v2 r0 r1 r2 r3 r4 r5 r6 r7 hfz HFK HN1 HR1 hsz hon hbd;go_wp2_with fail;go_region_held(fun W_=>W_.cell? ⟨B,0,none⟩=some (Pq K)∧W_.cell? ⟨B,1,none⟩=some (Iq s0)∧W_.cell? ⟨B,2,none⟩=some (Iq s1)∧W_.cell? ⟨B,3,none⟩=some (Iq s2)∧W_.cell? ⟨B,4,none⟩=some (Iq p4)∧W_.cell? ⟨B,5,none⟩=some (Iq p5)∧W_.cell? ⟨B,6,none⟩=some (Iq p6)∧W_.cell? ⟨B,7,none⟩=some (Iq p7)∧W_.cell? ⟨A,0,none⟩=some (Iq kd)∧W_.cell? ⟨A,1,none⟩=some (Iq a0)∧W_.cell? ⟨A,2,none⟩=some (Iq a1)∧W_.cell? ⟨A,3,none⟩=some (Iq a2)∧W_.cell? ⟨A,4,none⟩=some (Iq a3)∧W_.cell? ⟨A,5,none⟩=some (Iq a4)∧W_.cell? ⟨A,6,none⟩=some (Iq a5)∧W_.cell? ⟨A,7,none⟩=some (Iq a6)∧W_.cell? ⟨A,8,none⟩=some (Iq a7)∧W_.cell? ⟨A,9,none⟩=some (Iq a8)∧W_.cell? ⟨A,10,none⟩=some (Iq a9)∧W_.cell? ⟨A,11,none⟩=some (Iq b0)∧W_.cell? ⟨A,12,none⟩=some (Iq b1)∧W_.cell? ⟨A,13,none⟩=some (.string tx)∧W_.cell? ⟨A,14,none⟩=some (.slice pk kl ck)∧W_.cell? ⟨A,15,none⟩=some (Iq up)∧W_.cell? ⟨pb,k*10,none⟩=some (Iq p0)∧W_.cell? ⟨pb,k*10+1,none⟩=some (Iq p1)∧W_.cell? ⟨pb,k*10+2,none⟩=some (Iq p2)∧W_.cell? ⟨pb,k*10+3,none⟩=some (Iq p3)) (go_keep) (first|(go_at_call 16;refine Calls.mono (PA _ (by first|exact .inl rfl|exact .inr rfl)) ?_;rintro e u6 ⟨rfl,HV6,HC6⟩;obtain⟨j0,j1,j2,j3,j4,j5,j6,j7,j8,j9,j10,j11,j12,j13,j14,j15,j16,j17,j18,j19,j20,j21,j22,j23,j24,j25,j26,j27⟩:=HS u6 HC6));all_goals
     have HR6:Hid (R8 u6 B K s0 s1 s2 p4 p5 p6 p7):=(HC6.block B (by have:=HSZ.out;have:=HZ2.out;omega) (by omega)).trans HR2;have HK6:Hid (∀b,b<B->b≠M->u6.heap[b]?=u5.heap[b]?):=fun b h1 h2=>(HC6.block b (by have:=HSZ.out;have:=HZ2.out;omega) h2).trans ((HL2 b h1).trans (HKp b h1 h2));have HZ6:Hid (B<u6.heap.size):=by show _<_;have:=HC6.size;have:=HSZ.out;have:=HZ2.out;omega
     have HU6:Hid (Below U.heap.size U u6):=HC6.low hUM (by have:=HU2.size;omega) HU2;go_wp2;go_roundw;case rel=>exact⟨k+1,hlt,by go_num,HV6,HU6,HK6,HZ6,_,_,_,_,_,_,_,HR6⟩
     case measure=>simp[intOf];omega
   ·have hlt':¬(k:Int)<(n:Int):=by omega
    obtain rfl:k=n:=by omega
    have hb0:wr.cell? ⟨B,0,none⟩=some (Pq K):=by rw[Lib.cell_of_heap HR.out];rfl
    have HCW:Hid (CS 89 34 wr K M (W*H) W H (frK W H L P k)):=⟨(HKp K hKl HC5.ne).trans HC5.kb,HV,HC5.ne,HC5.hc⟩;have CE:Hid (Calls prog 17 #[Pq K] wr fun e w'=>∃N cap',e=.returned (Sq N (W*H) cap')∧Hid (Cv 34 w' N W H (frK W H L P k))∧Hid (wr.heap.size≤N)∧Hid (Below wr.heap.size wr w')):=cells_any wr HCW hW hH;go_wp2_with(go_at_call 17;refine CE.mono ?_;rintro e u6 ⟨N,cap6,rfl,HV6,HN6,HB6⟩);refine bodyPost_ret (results_tmp3 rfl _ _ _) rfl ?_;exact⟨HU.trans (HB6.mono HU.size),.inr ⟨W,H,rfl,rfl,hW,hH,N,cap6,P,Wd,Hf,HPL.1,HPL.2,rfl,by rw[HLN.out];exact HV6,Nat.le_trans HU.size HN6⟩⟩
end
section
open Go.RowKit Go.Sort Go.Proofs.Tryz
def rightP(t:ByteArray)(w h:Int):Prop:=∃L,pTree t=.ok L∧1≤w∧w≤400∧1≤h∧h≤400
def rightB(t:ByteArray)(w h:Int):Bool:=match pTree t with
 |.ok _=>decide (1≤w∧w≤400∧1≤h∧h≤400)
 |.error _=>false
theorem rightB_yes{t:ByteArray}{w h:Int}(q:rightP t w h):rightB t w h=true:=by obtain⟨L,hp,q⟩:=q;unfold rightB;rw[hp];exact decide_eq_true q
theorem rightB_no{t:ByteArray}{w h:Int}(q:¬rightP t w h):rightB t w h=false:=by
 unfold rightB;cases hp:pTree t with
 |error x=>rfl
 |ok L=>exact decide_eq_false (fun z=>q ⟨L,hp,z⟩)
theorem right_any(t:ByteArray)(w h:Int)(U:World):Calls prog 5 #[.string t,Iq w,Iq h] U fun e U'=>e=.returned (.bool (rightB t w h))∧Below U.heap.size U U':=by
 have RP:Hid (Calls prog 11 #[.string t] U fun e w'=>RpOut U w' e (parse t)):=rparse_any t U;cases hp:pTree t with
 |error x=>
  have hx:(errC x:Int)≠0:=by have:=err_pos hp;omega
  have HF:Hid (rightB t w h=false):=rightB_no (fun⟨L,q,_⟩=>by rw[hp]at q;cases q);rw[parse_of_err hp]at RP;obtain⟨c,hc⟩:∃z:Int,(errC x:Int)=z:=⟨_,rfl⟩;obtain⟨d,hd⟩:∃z:Int,(errP x:Int)=z:=⟨_,rfl⟩;have RP2:Hid (Calls prog 11 #[.string t] U fun e w'=>e=.returned (.tuple #[.slice none 0 0,Iq c,Iq d])∧Hid (Below U.heap.size U w')):=RP.mono fun e w' q=>⟨by have:=q.2;dsimp only at this;rw[hc,hd]at this;exact this,q.1⟩;rw[hc]at hx;clear RP hp hc hd;go_enter func5,ntmps5;go_wp2_with(go_at_call 11;refine RP2.mono ?_;rintro e U1 ⟨rfl,HB⟩);all_goals go_ret;exact⟨by rw[HF.out];rfl,HB⟩
 |ok L=>
  rw[parse_of_ok hp]at RP;have HY:Hid ((1≤w∧w≤400∧1≤h∧h≤400)->rightB t w h=true):=fun q=>rightB_yes ⟨L,hp,q⟩;have HN:Hid (¬(1≤w∧w≤400∧1≤h∧h≤400)->rightB t w h=false):=fun q=>rightB_no (fun⟨_,_,z⟩=>q z);have RP2:Hid (Calls prog 11 #[.string t] U fun e w'=>∃nv,e=.returned (.tuple #[nv,Iq 0,Iq 0])∧Hid (Below U.heap.size U w')):=RP.mono fun e w' q=>by obtain⟨h1,nv,_,_,h2,_⟩:=q;exact⟨nv,h2,h1⟩
  clear RP hp;go_enter func5,ntmps5;go_wp2_with(go_at_call 11;refine RP2.mono ?_;rintro e U1 ⟨nv,rfl,HB⟩;by_cases h1:1≤w;by_cases h2:w≤400;by_cases h3:1≤h;by_cases h4:h≤400);all_goals
   go_ret;first
    |exact⟨by rw[HY (by omega)];rfl,HB⟩
    |exact⟨by rw[HN (by omega)];rfl,HB⟩
    |exact⟨by rw[HY (by omega)];exact congrArg (fun z=>Ending.returned (Value.bool z)) (decide_eq_true (by omega)),HB⟩
    |exact⟨by rw[HN (by omega)];exact congrArg (fun z=>Ending.returned (Value.bool z)) (decide_eq_false (by omega)),HB⟩
end
section
theorem offs_eqv{f g:Nat->Int}(c:Int):∀k,(∀j,j<k->f j=g j)->offs f c k=offs g c k
 |0,_=>rfl
 |k+1,h=>by rw[offs_next,offs_next,offs_eqv c k (fun j hj=>h j (by omega)),h k (by omega)]
theorem KrSpec.uniq{kd a4 a5 a6:Int}{L:List Nd}{ks:List Nat}{Wd:Nat->Int}{H:Nat->Int->Int}{x y w h of rm:Int}{R0 R1 R2 R3 S0 S1 S2 S3:Nat->Int}(s:KrSpec kd a4 a5 a6 L ks Wd H x y w h of rm R0 R1 R2 R3)(s':KrSpec kd a4 a5 a6 L ks Wd H x y w h of rm S0 S1 S2 S3)(j:Nat)(hj:j<ks.length):
 R0 j=S0 j∧R1 j=S1 j∧R2 j=S2 j∧R3 j=S3 j:=by
 have hne:ks≠[]:=fun e=>by rw[e]at hj;exact absurd hj (by simp)
 by_cases h0:kd=0;·obtain⟨G,g1,_,g3⟩:=s.row h0;obtain⟨G',g1',_,g3'⟩:=s'.row h0;have hu:=(g1.resolve_left hne).uniq (g1'.resolve_left hne);obtain⟨e0,e1,e2,e3⟩:=g3 j hj;obtain⟨f0,f1,f2,f3⟩:=g3' j hj;have ho:=offs_eqv (cl a4) j (f:=G) (g:=G') (fun t ht=>hu t (by omega));have hj':=hu j hj;omega
 ·by_cases h1:kd=1;·obtain⟨G,g1,_,g3⟩:=s.col h1;obtain⟨G',g1',_,g3'⟩:=s'.col h1;have hu:=(g1.resolve_left hne).uniq (g1'.resolve_left hne);obtain⟨e0,e1,e2,e3⟩:=g3 j hj;obtain⟨f0,f1,f2,f3⟩:=g3' j hj;have ho:=offs_eqv (cl a4) j (f:=G) (g:=G') (fun t ht=>hu t (by omega));have hj':=hu j hj;omega
  ·by_cases h3:kd=3;·have e:=s.box h3 j hj;have f:=s'.box h3 j hj;exact rv_inj (e.symm.trans f)
   ·by_cases h4:kd=4;·obtain⟨e0,e1,e2,e3⟩:=s.scr h4 j hj;obtain⟨f0,f1,f2,f3⟩:=s'.scr h4 j hj;omega
    ·obtain⟨e0,e1,e2,e3⟩:=s.rest h0 h1 h3 h4 j hj;obtain⟨f0,f1,f2,f3⟩:=s'.rest h0 h1 h3 h4 j hj;omega
section
variable{s:ByteArray} {L:List Nd} {Wd:Nat->Int} {H:Nat->Int->Int} {w h:Int} {idf off:Nat->Int} {sn:Nat} {P Q:Nat->Nat->Int}
theorem PlTo.ext89(hp:PlTo L Wd H w h idf off sn P L.length)(hq:PlTo L Wd H w h idf off sn Q L.length){i:Nat}(hi:i<L.length)(h2:P i 2=Q i 2)(h3:P i 3=Q i 3):P i 8=Q i 8∧P i 9=Q i 9:=by
 by_cases h4:(nth L i).kind=4;·obtain⟨a,b⟩:=hp.sc i hi hi h4;obtain⟨c,d⟩:=hq.sc i hi hi h4;rw[h2,h3]at a;have e:P i 9=Q i 9:=a.trans c.symm;rw[e]at b;exact⟨b.trans d.symm,e⟩
 ·obtain⟨a,b⟩:=hp.no i hi (.inr h4);obtain⟨c,d⟩:=hq.no i hi (.inr h4);exact⟨a.trans c.symm,b.trans d.symm⟩
theorem PlTo.uniq(hT:Tree s L)(hp:PlTo L Wd H w h idf off sn P L.length)(hq:PlTo L Wd H w h idf off sn Q L.length):∀n i,i<n->i<L.length->∀t,t<10->P i t=Q i t
 |0,i,h,_=>by omega
 |n+1,i,hn,hi=>by
  have key:∀t,t<8->P i t=Q i t:=by
   by_cases e:i=0
   ·subst e;obtain⟨a0,a1,a2,a3,a4,a5,a6,a7⟩:=hp.root;obtain⟨b0,b1,b2,b3,b4,b5,b6,b7⟩:=hq.root;intro t ht;have:t=0∨t=1∨t=2∨t=3∨t=4∨t=5∨t=6∨t=7:=by omega
    rcases this with rfl|rfl|rfl|rfl|rfl|rfl|rfl|rfl;·exact a0.trans b0.symm
    ·exact a1.trans b1.symm
    ·exact a2.trans b2.symm
    ·exact a3.trans b3.symm
    ·exact a4.trans b4.symm
    ·exact a5.trans b5.symm
    ·exact a6.trans b6.symm
    ·exact a7.trans b7.symm
   ·obtain⟨u,k,hu,hk,hc,hup⟩:=hT.kid_of i (by omega) hi;have ih:=PlTo.uniq hT hp hq n u (by omega) (by omega);obtain⟨R0,R1,R2,R3,hs,hkk⟩:=hp.kr u (by omega) (by omega);obtain⟨S0,S1,S2,S3,hs',hkk'⟩:=hq.kr u (by omega) (by omega);have hs2:=hs.congr (ih 0 (by omega)) (ih 1 (by omega)) (ih 2 (by omega)) (ih 3 (by omega)) (ih 8 (by omega)) (ih 9 (by omega));obtain⟨e0,e1,e2,e3⟩:=hs2.uniq hs' k hk;intro t ht;rw[<-hc,hkk k hk t ht,hkk' k hk t ht,e0,e1,e2,e3];unfold plV;rw[ih 4 (by omega),ih 5 (by omega),ih 6 (by omega),ih 7 (by omega)]
  intro t ht;by_cases h8:t<8;·exact key t h8
  ·obtain⟨a,b⟩:=PlTo.ext89 hp hq hi (key 2 (by omega)) (key 3 (by omega));have:t=8∨t=9:=by omega
   rcases this with rfl|rfl;·exact a
   ·exact b
end
end
section
open Go.RowKit Go.Sort
def wCells(a b c:Nat->Int):Nat->List Value
 |0=>[]
 |k+1=>wCells a b c k++[Iq (a k),Iq (b k),Iq (c k)]
theorem wCells_len(a b c:Nat->Int):∀k,(wCells a b c k).length=k*3
 |0=>rfl
 |k+1=>by rw[wCells,List.length_append,wCells_len a b c k];simp;omega
theorem wCells_at(a b c:Nat->Int):∀k j,j<k->(wCells a b c k)[j*3]?=some (Iq (a j))∧(wCells a b c k)[j*3+1]?=some (Iq (b j))∧(wCells a b c k)[j*3+2]?=some (Iq (c j))
 |0,j,h=>by omega
 |k+1,j,h=>by
  have hl:=wCells_len a b c k;by_cases e:j<k;·have:=wCells_at a b c k j e;simp only[wCells];rw[List.getElem?_append_left (by omega),List.getElem?_append_left (by omega),List.getElem?_append_left (by omega)];exact this
  ·obtain rfl:j=k:=by omega
   simp only[wCells];rw[List.getElem?_append_right (by omega),List.getElem?_append_right (by omega),List.getElem?_append_right (by omega),hl,Nat.sub_self,show j*3+1-j*3=1 by omega,show j*3+2-j*3=2 by omega];exact⟨rfl,rfl,rfl⟩
theorem spl_ex(n:Nat)(a b c:Nat->Int)(room gap:Int)(U:World)(hn0:0<n)(hn:n≤200):∃g,SplitIs n (fun j=>cl (a j)) (fun j=>hMax (a j) (b j)) (fun j=>cl (c j)) (rm room gap n) g:=by
 have hw:WIn (U.alloc (.cells (wCells a b c n).toArray 0)) (Sq U.heap.size n n) n a b c:=by refine⟨_,_,rfl,.inr ⟨U.heap.size,0,rfl,by rw[World.size_alloc];omega,fun j hj=>?_⟩⟩;have h:=wCells_at a b c n j hj;rw[World.cell?_alloc_at _ _ _ _ rfl,World.cell?_alloc_at _ _ _ _ rfl,World.cell?_alloc_at _ _ _ _ rfl];simpa using h
 obtain⟨e,w',fr,⟨v,he,hv⟩,_⟩:=split_all _ n a b c room gap _ hw (by omega) [];rcases hv with⟨h0,_⟩|⟨_,_,lb,_,hsp⟩;·omega
 ·obtain⟨_,⟨g,_,h⟩,_⟩:=hsp;exact⟨g,h⟩
theorem kidspl_ex(L:List Nd)(ks:List Nat)(N:Nat->Int)(room gap:Int)(U:World)(h0:0<ks.length)(hn:ks.length≤200):∃g,KidSpl L ks N room gap g:=
 spl_ex ks.length (fun j=>wMn (nth L (kdn ks j)) (N j)) (fun j=>atN (nth L (kdn ks j)) 2) (fun j=>atN (nth L (kdn ks j)) 3) room gap U h0 hn
end
section
structure Ins(s t:ByteArray)(d:Nat):Prop where
 at_:∀i,i<s.size->bat t (i+d)=bat s i
 com:bat t (s.size+d)=44
 ex:∀i k,i≤k->k≤s.size->t.extract (i+d) (k+d)=s.extract i k
section
variable{s t:ByteArray} {d:Nat}
theorem Ins.lt(h:Ins s t d):s.size+d<t.size:=by
 by_cases q:s.size+d<t.size;·exact q
 ·have:=bat_out q;rw[h.com]at this;omega
theorem Ins.run(h:Ins s t d){p:Nat->Bool}(h1:p 44=false):∀m i,s.size-i≤m->i≤s.size->run p t (i+d)=run p s i+d
 |0,i,hm,hi=>by
  obtain rfl:i=s.size:=by omega
  rw[run_out (s:=s) (by omega),run_stop (s:=t) (by rw[h.com];exact h1)]
 |m+1,i,hm,hi=>by
  by_cases e:i<s.size;·cases hp:p (bat s i)with
   |true=>rw[run_step (i:=i+d) (by have:=h.lt;omega) (by rw[h.at_ i e];exact hp),run_step e hp,show i+d+1=i+1+d by omega];exact h.run h1 m (i+1) (by omega) (by omega)
   |false=>rw[run_stop (by rw[h.at_ i e];exact hp),run_stop hp]
  ·obtain rfl:i=s.size:=by omega
   rw[run_out (s:=s) (by omega),run_stop (s:=t) (by rw[h.com];exact h1)]
theorem Ins.sk(h:Ins s t d){i:Nat}(hi:i≤s.size):sk t (i+d)=sk s i+d:=h.run (p:=blank) (by rfl) _ i (Nat.le_refl _) hi
theorem Ins.isAt(h:Ins s t d){i c:Nat}(hi:i≤s.size)(hc:c<256)(hq:c≠44∨Proofs.YtmbefonnkkhfgaaGreatDoor.sk s i<s.size):isAt t (i+d) c=isAt s i c:=by
 unfold Proofs.YtmbefonnkkhfgaaGreatDoor.isAt;rw[h.sk hi];by_cases e:Proofs.YtmbefonnkkhfgaaGreatDoor.sk s i<s.size;·rw[h.at_ _ e]
 ·have e2:Proofs.YtmbefonnkkhfgaaGreatDoor.sk s i=s.size:=by have:=sk_le s i hi;omega
  have h4:=h.com;rw[bat_out e,e2,h4];have a1:(44==c)=false:=by simp;omega
  have a2:(256==c)=false:=by simp;omega
  rw[a1,a2]
theorem Ins.gotI(h:Ins s t d){i c:Nat}(hi:i≤s.size)(hc:c<256)(hq:c≠44∨Proofs.YtmbefonnkkhfgaaGreatDoor.sk s i<s.size):gotI t (i+d) c=gotI s i c+d:=by
 have:=h.isAt hi hc hq;unfold Proofs.YtmbefonnkkhfgaaGreatDoor.isAt at this;unfold Proofs.YtmbefonnkkhfgaaGreatDoor.gotI;rw[h.sk hi]at this⊢;by_cases e:bat s (Proofs.YtmbefonnkkhfgaaGreatDoor.sk s i)=c
 ·rw[e]at this;have e2:bat t (Proofs.YtmbefonnkkhfgaaGreatDoor.sk s i+d)=c:=by simpa using this
  rw[if_pos e,if_pos e2];omega
 ·have e2:¬bat t (Proofs.YtmbefonnkkhfgaaGreatDoor.sk s i+d)=c:=fun q=>by
   rw[q]at this;have:(bat s (Proofs.YtmbefonnkkhfgaaGreatDoor.sk s i)==c)=true:=by rw[<-this];simp
   exact e (by simpa using this)
  rw[if_neg e,if_neg e2]
theorem isAt_in{i c:Nat}(hi:i≤s.size)(hc:c<256)(h:isAt s i c=true):sk s i<s.size∧gotI s i c=sk s i+1:=by
 unfold isAt at h;have h1:bat s (sk s i)=c:=by simpa using h
 refine⟨?_,by unfold gotI;rw[if_pos h1]⟩;by_cases e:sk s i<s.size;·exact e
 ·rw[bat_out e]at h1;omega
theorem gotI_in{i c:Nat}(hi:i≤s.size)(hc:c<256):gotI s i c≤s.size:=by
 cases h:isAt s i c with
 |true=>have:=isAt_in hi hc h;omega
 |false=>unfold isAt at h;have:=sk_le s i hi;unfold gotI;rw[if_neg (by simpa using h)];exact this
theorem must_in{i c j:Nat}(hi:i≤s.size)(hc:c<256)(h:mustR s i c=.ok j):j≤s.size∧sk s i<s.size∧∀t d,Ins s t d->c≠44->mustR t (i+d) c=.ok (j+d):=by
 unfold mustR at h;split at h;·rename_i hq;injection h with h;subst h;refine⟨gotI_in hi hc,(isAt_in hi hc hq).1,fun t d ht hne=>?_⟩;unfold mustR;rw[ht.isAt hi hc (.inl hne),if_pos hq,ht.gotI hi hc (.inl hne)]
 ·cases h
theorem bat_ne{i:Nat}(h:bat s i≠256):i<s.size:=by
 by_cases e:i<s.size;·exact e
 ·exact absurd (bat_out e) h
theorem qF_in:∀(f p:Nat) (acc:List UInt8) (q:Nat) (x:List UInt8),qF s f p acc=.ok (q,x)->q≤s.size∧∀t d f',f≤f'->Ins s t d->qF t f' (p+d) acc=.ok (q+d,x)
 |0,p,acc,q,x,h=>by cases h
 |f+1,p,acc,q,x,h=>by
  unfold qF at h;by_cases c0:bat s p=256;·rw[if_pos c0]at h;cases h
  have hp:=bat_ne c0;rw[if_neg c0]at h;by_cases c1:bat s p=34;·rw[if_pos c1]at h;injection h with h;injection h with h1 h2;subst h1 h2;refine⟨hp,fun t d f' hf ht=>?_⟩;obtain⟨f',rfl⟩:∃g,f'=g+1:=⟨f'-1,by omega⟩;unfold qF;rw[ht.at_ p hp,if_neg c0,if_pos c1,show p+1+d=p+d+1 by omega]
  rw[if_neg c1]at h;by_cases c2:bat s p=92
  ·rw[if_pos c2]at h;by_cases c3:bat s (p+1)=34∨bat s (p+1)=92
   ·rw[if_pos c3]at h;have hp1:p+1<s.size:=bat_ne (by omega);obtain⟨i1,i2⟩:=qF_in f _ _ q x h;refine⟨i1,fun t d f' hf ht=>?_⟩;obtain⟨f',rfl⟩:∃g,f'=g+1:=⟨f'-1,by omega⟩;have e1:bat t (p+d+1)=bat s (p+1):=by rw[show p+d+1=p+1+d by omega];exact ht.at_ _ hp1
    unfold qF;rw[ht.at_ p hp,e1,if_neg c0,if_neg c1,if_pos c2,if_pos c3,show p+d+2=p+2+d by omega];exact i2 t d f' (by omega) ht
   ·rw[if_neg c3]at h;by_cases c4:bat s (p+1)=110
    ·rw[if_pos c4]at h;have hp1:p+1<s.size:=bat_ne (by omega);obtain⟨i1,i2⟩:=qF_in f _ _ q x h;refine⟨i1,fun t d f' hf ht=>?_⟩;obtain⟨f',rfl⟩:∃g,f'=g+1:=⟨f'-1,by omega⟩;have e1:bat t (p+d+1)=bat s (p+1):=by rw[show p+d+1=p+1+d by omega];exact ht.at_ _ hp1
     unfold qF;rw[ht.at_ p hp,e1,if_neg c0,if_neg c1,if_pos c2,if_neg c3,if_pos c4,show p+d+2=p+2+d by omega];exact i2 t d f' (by omega) ht
    ·rw[if_neg c4]at h;cases h
  ·rw[if_neg c2]at h;obtain⟨i1,i2⟩:=qF_in f _ _ q x h;refine⟨i1,fun t d f' hf ht=>?_⟩;obtain⟨f',rfl⟩:∃g,f'=g+1:=⟨f'-1,by omega⟩;unfold qF;rw[ht.at_ p hp,if_neg c0,if_neg c1,if_neg c2,show p+d+1=p+1+d by omega];exact i2 t d f' (by omega) ht
theorem quo_in{i q:Nat}{x:List UInt8}(hi:i≤s.size)(h:quoR s i=.ok (q,x)):q≤s.size∧∀t d,Ins s t d->quoR t (i+d)=.ok (q+d,x):=by
 unfold quoR at h;split at h;·rename_i hq;obtain⟨i1,i2⟩:=qF_in _ _ _ _ _ h;refine⟨i1,fun t d ht=>?_⟩;unfold quoR;rw[ht.isAt hi (by omega) (.inl (by omega)),if_pos hq,ht.gotI hi (by omega) (.inl (by omega))];exact i2 t d _ (by have:=ht.lt;omega) ht
 ·cases h
theorem Ins.dv(h:Ins s t d){j:Nat}:∀c,j+c≤s.size->dv t (j+d) c=dv s j c
 |0,_=>rfl
 |c+1,hc=>by unfold Proofs.YtmbefonnkkhfgaaGreatDoor.dv;rw[h.dv c (by omega),show j+d+c=j+c+d by omega,h.at_ (j+c) (by omega)]
theorem attr1_in{kind:Nat}{L:List Nd}{i:Nat}{er:Flt}{a:List Int}{seen:List Nat}{i2:Nat}{er2:Flt}{a2:List Int}{seen2:List Nat}(hi:i≤s.size)(h:attr1 s kind L i er a seen=.ok (i2,er2,a2,seen2)):
 i2≤s.size∧∀d L' er',∃E,∀t,Ins s t d->attr1 t kind L' (i+d) er' a seen=.ok (i2+d,E,a2,seen2):=by
 unfold attr1 at h;dsimp only at h;obtain⟨p,hp⟩:∃p,sk s i=p:=⟨_,rfl⟩;have hpl:p≤s.size:=by rw[<-hp];exact sk_le s i hi
 rw[hp]at h;obtain⟨k,hk⟩:∃k,run letter s p=k:=⟨_,rfl⟩;have hkl:k≤s.size:=by rw[<-hk];exact run_le _ _ _ hpl
 have hpk:p≤k:=by rw[<-hk];exact run_ge _ _ _
 rw[hk]at h;by_cases c0:k=p;·rw[if_pos c0]at h;cases h
 rw[if_neg c0]at h;cases hm:mustR s k 61 with
 |error b=>rw[hm]at h;cases h
 |ok q=>
  rw[hm]at h;dsimp only at h;obtain⟨hql,_,hqt⟩:=must_in hkl (by omega) hm;obtain⟨j,hj⟩:∃j,sk s q=j:=⟨_,rfl⟩;have hjl:j≤s.size:=by rw[<-hj];exact sk_le s q hql
  rw[hj]at h;obtain⟨e,he⟩:∃e,run digit s j=e:=⟨_,rfl⟩;have hel:e≤s.size:=by rw[<-he];exact run_le _ _ _ hjl
  have hje:j≤e:=by rw[<-he];exact run_ge _ _ _
  rw[he]at h;cases hn:numBad s j e with
  |true=>rw[hn,if_pos rfl]at h;cases h
  |false=>
   rw[hn,if_neg (by decide)]at h;have key:∀t d,Ins s t d->sk t (i+d)=p+d∧run letter t (p+d)=k+d∧mustR t (k+d) 61=.ok (q+d)∧sk t (q+d)=j+d∧run digit t (j+d)=e+d∧numBad t (j+d) (e+d)=false∧Proofs.YtmbefonnkkhfgaaGreatDoor.dv t (j+d) (e+d-(j+d))=Proofs.YtmbefonnkkhfgaaGreatDoor.dv s j (e-j)∧t.extract (p+d) (k+d)=s.extract p k:=fun t d ht=>by
    refine⟨by rw[ht.sk hi,hp],by rw[ht.run (p:=letter) (by rfl) _ p (Nat.le_refl _) hpl,hk],hqt t d ht (by omega),by rw[ht.sk hql,hj],by rw[ht.run (p:=digit) (by rfl) _ j (Nat.le_refl _) hjl,he],?_,?_,ht.ex p k hpk hkl⟩
    ·unfold numBad at hn⊢;rw[decide_eq_false_iff_not]at hn⊢;rintro(c|c|⟨c1,c2⟩);·exact hn (.inl (by omega))
     ·exact hn (.inr (.inl (by omega)))
     ·rw[ht.at_ j (by omega)]at c2;exact hn (.inr (.inr ⟨by omega,c2⟩))
    ·rw[show e+d-(j+d)=e-j by omega];exact ht.dv _ (by omega)
   have hkd:∀d:Nat,¬k+d=p+d:=fun d=>by omega
   by_cases c1:findF namesL (s.extract p k) 0<0∨ownsB kind (findF namesL (s.extract p k) 0).toNat=false;·rw[if_pos c1]at h;injection h with h;injection h with h1 h;injection h with h2 h;injection h with h3 h4;subst h1 h3 h4;refine⟨hel,fun d L' er'=>⟨addF er' 7 (p+d),fun t ht=>?_⟩⟩;obtain⟨g1,g2,g3,g4,g5,g6,g7,g8⟩:=key t d ht;unfold attr1;dsimp only;rw[g1,g2,if_neg (hkd d),g3];dsimp only;rw[g4,g5,g6,if_neg (by decide),g8,if_pos c1]
   ·rw[if_neg c1]at h;injection h with h;injection h with h1 h;injection h with h2 h;injection h with h3 h4;subst h1 h3 h4;obtain⟨ix,hix⟩:∃z,findF namesL (s.extract p k) 0=z:=⟨_,rfl⟩;obtain⟨n,hnn⟩:∃z,Proofs.YtmbefonnkkhfgaaGreatDoor.dv s j (e-j)=z:=⟨_,rfl⟩;rw[hnn]at key;rw[hix]at c1;rw[hix,hnn];refine⟨hel,fun d L' er'=>⟨addIf (decide (ix=0∧0<n)&&hasId L' n) (addIf (decide (mostL[ix.toNat]?.getD 0<n)) (addIf (seen.contains ix.toNat) er' 5 (p+d)) 6 (j+d)) 5 (j+d),fun t ht=>?_⟩⟩;obtain⟨g1,g2,g3,g4,g5,g6,g7,g8⟩:=key t d ht;unfold attr1;dsimp only;rw[g1,g2,if_neg (hkd d),g3];dsimp only;rw[g4,g5,g6,if_neg (by decide),g8,hix,if_neg c1,g7]
theorem attrsF_in{kind:Nat}{L:List Nd}:∀(f i:Nat) (er:Flt) (a:List Int) (seen:List Nat) (i2:Nat) (er2:Flt) (a2:List Int),i≤s.size->attrsF s kind L f i er a seen=.ok (i2,er2,a2)->
 i2≤s.size∧∀d L' er',∃E,∀t f',f≤f'->Ins s t d->attrsF t kind L' f' (i+d) er' a seen=.ok (i2+d,E,a2)
 |0,i,er,a,seen,i2,er2,a2,hi,h=>by cases h
 |f+1,i,er,a,seen,i2,er2,a2,hi,h=>by
  unfold attrsF at h;cases h1:attr1 s kind L i er a seen with
  |error b=>rw[h1]at h;cases h
  |ok r=>
   obtain⟨j,er3,a3,seen3⟩:=r;rw[h1]at h;dsimp only at h;obtain⟨hj,k1⟩:=attr1_in hi h1;cases c:isAt s j 59 with
   |true=>rw[c,if_pos rfl]at h;obtain⟨hi2,k2⟩:=attrsF_in f _ _ _ _ i2 er2 a2 (gotI_in hj (by omega)) h;refine⟨hi2,fun d L' er'=>?_⟩;obtain⟨E1,k1⟩:=k1 d L' er';obtain⟨E2,k2⟩:=k2 d L' E1;refine⟨E2,fun t f' hf ht=>?_⟩;obtain⟨f',rfl⟩:∃g,f'=g+1:=⟨f'-1,by omega⟩;unfold attrsF;rw[k1 t ht];dsimp only;rw[ht.isAt hj (by omega) (.inl (by omega)),c,if_pos rfl,ht.gotI hj (by omega) (.inl (by omega))];exact k2 t f' (by omega) ht
   |false=>
    rw[c,if_neg (by decide)]at h;cases hm:mustR s j 125 with
    |error b=>rw[hm]at h;cases h
    |ok i3=>rw[hm]at h;injection h with h;injection h with e1 h;injection h with e2 e3;subst e1 e3;obtain⟨hql,_,hqt⟩:=must_in hj (by omega) hm;refine⟨hql,fun d L' er'=>?_⟩;obtain⟨E1,k1⟩:=k1 d L' er';refine⟨E1,fun t f' hf ht=>?_⟩;obtain⟨f',rfl⟩:∃g,f'=g+1:=⟨f'-1,by omega⟩;unfold attrsF;rw[k1 t ht];dsimp only;rw[ht.isAt hj (by omega) (.inl (by omega)),c,if_neg (by decide),hqt t d ht (by omega)]
theorem attrsR_in{kind:Nat}{L:List Nd}{i:Nat}{er:Flt}{i2:Nat}{er2:Flt}{a2:List Int}(hi:i≤s.size)(h:attrsR s kind L i er=.ok (i2,er2,a2)):
 i2≤s.size∧∀d L' er',∃E,∀t,Ins s t d->attrsR t kind L' (i+d) er'=.ok (i2+d,E,a2):=by
 unfold attrsR at h;cases c:isAt s i 123 with
 |true=>rw[c,if_pos rfl]at h;obtain⟨h1,h2⟩:=attrsF_in _ _ _ _ _ i2 er2 a2 (gotI_in hi (by omega)) h;refine⟨h1,fun d L' er'=>?_⟩;obtain⟨E,h2⟩:=h2 d L' er';refine⟨E,fun t ht=>?_⟩;unfold attrsR;rw[ht.isAt hi (by omega) (.inl (by omega)),c,if_pos rfl,ht.gotI hi (by omega) (.inl (by omega))];exact h2 t _ (by have:=ht.lt;omega) ht
 |false=>rw[c,if_neg (by decide)]at h;injection h with h;injection h with e1 h;injection h with e2 e3;subst e1 e3;refine⟨sk_le s i hi,fun d L' er'=>⟨er',fun t ht=>?_⟩⟩;unfold attrsR;rw[ht.isAt hi (by omega) (.inl (by omega)),c,if_neg (by decide),ht.sk hi]
end
def sh1(n:Nd):Nd:=⟨n.kind,n.attr,n.text,n.kids.map (·+1),n.up+1⟩
def shL(x:Nd)(L:List Nd):List Nd:=x::L.map sh1
theorem map_modify(f g:Nd->Nd)(q:∀u,sh1 (f u)=g (sh1 u)):∀(L:List Nd) (k:Nat),(L.modify k f).map sh1=(L.map sh1).modify k g
 |[],k=>by simp
 |u::L,0=>by simp[q]
 |u::L,k+1=>by simp[map_modify f g q L k]
theorem sh_grown{x:Nd}{L:List Nd}{n:Nd}(h:0≤n.up):grown (shL x L) (sh1 n)=shL x (grown L n):=by
 unfold grown;have h1:¬(sh1 n).up<0:=by show¬n.up+1<0;omega
 have h2:(sh1 n).up.toNat=n.up.toNat+1:=by show(n.up+1).toNat=_;omega
 rw[if_neg h1,if_neg (by omega),h2];unfold shL;rw[List.modify_succ_cons,List.map_append,map_modify _ (fun u=>{u with kids:=u.kids++[L.length+1]}) (fun u=>by simp[sh1])];simp
theorem sh_text{x:Nd}{L:List Nd}{k:Nat}{t:List UInt8}:withText (shL x L) (k+1) t=shL x (withText L k t):=by unfold withText shL;rw[List.modify_succ_cons,map_modify _ (fun u=>{u with text:=t}) (fun u=>rfl)]
def NodeIn(s:ByteArray)(d:Nat)(x x':Nd)(f:Nat)(node:PS->Except Nat PS)(node':ByteArray->Nat->PS->Except Nat PS)(a:PS):Prop:=
 ∀b,node a=.ok b->a.i≤s.size->b.i≤s.size∧∀er',∃E,∀t f',f≤f'->Ins s t d->node' t f' ⟨a.i+d,shL x a.L,er'⟩=.ok ⟨b.i+d,shL x' b.L,E⟩
theorem kids_in{s:ByteArray}{d:Nat}{x:Nd}{f:Nat}{node:PS->Except Nat PS}{node':ByteArray->Nat->PS->Except Nat PS}(hn:∀a,NodeIn s d x x f node node' a):∀(g:Nat) (st st':PS),kidsF s node g st=.ok st'->st.i≤s.size->
 st'.i≤s.size∧∀er',∃E,∀t f' g',f≤f'->g≤g'->Ins s t d->kidsF t (node' t f') g' ⟨st.i+d,shL x st.L,er'⟩=.ok ⟨st'.i+d,shL x st'.L,E⟩
 |0,st,st',h,hi=>by cases h
 |g+1,st,st',h,hi=>by
  unfold kidsF at h;cases h1:node st with
  |error b=>rw[h1]at h;cases h
  |ok st2=>
   rw[h1]at h;dsimp only at h;obtain⟨hi2,k1⟩:=hn st st2 h1 hi;cases c:isAt s st2.i 44 with
   |true=>rw[c,if_pos rfl]at h;obtain⟨hsk,_⟩:=isAt_in hi2 (by omega) c;obtain⟨hi3,k2⟩:=kids_in hn g _ st' h (gotI_in hi2 (by omega));refine⟨hi3,fun er'=>?_⟩;obtain⟨E1,k1⟩:=k1 er';obtain⟨E2,k2⟩:=k2 E1;refine⟨E2,fun t f' g' hf hg ht=>?_⟩;obtain⟨g',rfl⟩:∃g,g'=g+1:=⟨g'-1,by omega⟩;unfold kidsF;rw[k1 t f' hf ht];dsimp only;rw[ht.isAt hi2 (by omega) (.inr hsk),c,if_pos rfl,ht.gotI hi2 (by omega) (.inr hsk)];exact k2 t f' g' hf (by omega) ht
   |false=>
    rw[c,if_neg (by decide)]at h;cases hm:mustR s st2.i 93 with
    |error b=>rw[hm]at h;cases h
    |ok i3=>rw[hm]at h;injection h with h;subst h;obtain⟨hql,hsk,hqt⟩:=must_in hi2 (by omega) hm;refine⟨hql,fun er'=>?_⟩;obtain⟨E1,k1⟩:=k1 er';refine⟨E1,fun t f' g' hf hg ht=>?_⟩;obtain⟨g',rfl⟩:∃g,g'=g+1:=⟨g'-1,by omega⟩;unfold kidsF;rw[k1 t f' hf ht];dsimp only;rw[ht.isAt hi2 (by omega) (.inr hsk),c,if_neg (by decide),hqt t d ht (by omega)]
theorem body_in{s:ByteArray}{d:Nat}{x:Nd}{f:Nat}{node:PS->Except Nat PS}{node':ByteArray->Nat->PS->Except Nat PS}(hn:∀a,NodeIn s d x x f node node' a){kind k:Nat}{st st':PS}(h:bodyR s kind k node st=.ok st')(hi:st.i≤s.size):
 st'.i≤s.size∧∀er',∃E,∀t f',f≤f'->Ins s t d->bodyR t kind (k+1) (node' t f') ⟨st.i+d,shL x st.L,er'⟩=.ok ⟨st'.i+d,shL x st'.L,E⟩:=by
 unfold bodyR at h;by_cases c1:kind<3;·rw[if_pos c1]at h;cases hm:mustR s st.i 91 with
  |error b=>rw[hm]at h;cases h
  |ok i2=>
   rw[hm]at h;dsimp only at h;obtain⟨hql,_,hqt⟩:=must_in hi (by omega) hm;cases c:isAt s i2 93 with
   |true=>rw[c,if_pos rfl]at h;injection h with h;subst h;refine⟨gotI_in hql (by omega),fun er'=>⟨er',fun t f' hf ht=>?_⟩⟩;unfold bodyR;rw[if_pos c1];dsimp only;rw[hqt t d ht (by omega)];dsimp only;rw[ht.isAt hql (by omega) (.inl (by omega)),c,if_pos rfl,ht.gotI hql (by omega) (.inl (by omega))]
   |false=>rw[c,if_neg (by decide)]at h;obtain⟨h1,h2⟩:=kids_in hn _ _ _ h (sk_le s i2 hql);refine⟨h1,fun er'=>?_⟩;obtain⟨E,h2⟩:=h2 er';refine⟨E,fun t f' hf ht=>?_⟩;unfold bodyR;rw[if_pos c1];dsimp only;rw[hqt t d ht (by omega)];dsimp only;rw[ht.isAt hql (by omega) (.inl (by omega)),c,if_neg (by decide),ht.sk hql];exact h2 t f' _ hf (by have:=ht.lt;omega) ht
 ·rw[if_neg c1]at h;by_cases c2:kind<5;·rw[if_pos c2]at h;cases hm:mustR s st.i 91 with
   |error b=>rw[hm]at h;cases h
   |ok i2=>
    rw[hm]at h;dsimp only at h;obtain⟨hql,_,hqt⟩:=must_in hi (by omega) hm;cases h1:node {st with i:=i2}with
    |error b=>rw[h1]at h;cases h
    |ok st3=>
     rw[h1]at h;dsimp only at h;obtain⟨hi3,k1⟩:=hn _ st3 h1 hql;cases hm2:mustR s st3.i 93 with
     |error b=>rw[hm2]at h;cases h
     |ok i4=>rw[hm2]at h;injection h with h;subst h;obtain⟨hq2,_,hqt2⟩:=must_in hi3 (by omega) hm2;refine⟨hq2,fun er'=>?_⟩;obtain⟨E,k1⟩:=k1 er';refine⟨E,fun t f' hf ht=>?_⟩;unfold bodyR;rw[if_neg c1,if_pos c2];dsimp only;rw[hqt t d ht (by omega)];dsimp only;rw[k1 t f' hf ht];dsimp only;rw[hqt2 t d ht (by omega)]
  ·rw[if_neg c2]at h;by_cases c3:kind=5;·rw[if_pos c3]at h;cases hq:quoR s st.i with
    |error b=>rw[hq]at h;cases h
    |ok r=>obtain⟨i2,tx⟩:=r;rw[hq]at h;injection h with h;subst h;obtain⟨h1,h2⟩:=quo_in hi hq;refine⟨h1,fun er'=>⟨er',fun t f' hf ht=>?_⟩⟩;unfold bodyR;rw[if_neg c1,if_neg c2,if_pos c3];dsimp only;rw[h2 t d ht];dsimp only;rw[sh_text]
   ·rw[if_neg c3]at h;injection h with h;subst h;refine⟨hi,fun er'=>⟨er',fun t f' hf ht=>?_⟩⟩;unfold bodyR;rw[if_neg c1,if_neg c2,if_neg c3]
theorem node_in{s:ByteArray}{d:Nat}:∀(f:Nat) (up:Int) (depth depth':Nat) (x x':Nd) (a:PS),((0≤up∧x'=x)∨(up=-1∧a.L=[]∧x'={x with kids:=x.kids++[1]}))->
 NodeIn s d x x' f (nodeF s f up depth) (fun t f'=>nodeF t f' (up+1) depth') a
 |0,up,depth,depth',x,x',a,hu,b,h,hi=>by cases h
 |f+1,up,depth,depth',x,x',a,hu,b,h,hi=>by
  unfold nodeF at h;dsimp only at h;obtain⟨p,hp⟩:∃p,sk s a.i=p:=⟨_,rfl⟩;have hpl:p≤s.size:=by rw[<-hp];exact sk_le s a.i hi
  rw[hp]at h;obtain⟨k,hk⟩:∃k,run letter s p=k:=⟨_,rfl⟩;have hkl:k≤s.size:=by rw[<-hk];exact run_le _ _ _ hpl
  have hpk:p≤k:=by rw[<-hk];exact run_ge _ _ _
  rw[hk]at h;obtain⟨kd,hkd⟩:∃z,findF kindsL (s.extract p k) 0=z:=⟨_,rfl⟩;rw[hkd]at h;by_cases c0:k=p∨kd<0;·rw[if_pos c0]at h;cases h
  rw[if_neg c0]at h;cases h1:attrsR s kd.toNat a.L k (addIf (decide (12≤depth)) (addIf (decide (100≤a.L.length)) a.er 3 p) 4 p)with
  |error b=>rw[h1]at h;cases h
  |ok r=>
   obtain⟨i2,er2,at2⟩:=r;rw[h1]at h;dsimp only at h;obtain⟨hi2,k1⟩:=attrsR_in hkl h1;have hgr:grown (shL x a.L) ⟨kd.toNat,at2,[],[],up+1⟩=shL x' (grown a.L ⟨kd.toNat,at2,[],[],up⟩):=by
    rcases hu with⟨h0,rfl⟩|⟨rfl,hL,rfl⟩;·exact sh_grown (n:=⟨kd.toNat,at2,[],[],up⟩) h0
    ·rw[hL];simp[grown,shL,sh1]
   have hn:∀a',NodeIn s d x' x' f (nodeF s f a.L.length (depth+1)) (fun t f'=>nodeF t f' ((a.L.length:Int)+1) (depth'+1)) a':=fun a'=>node_in f _ _ _ x' x' a' (.inl ⟨by omega,rfl⟩);obtain⟨h3,h4⟩:=body_in hn h hi2;refine⟨h3,fun er'=>?_⟩;obtain⟨E1,k1⟩:=k1 d (shL x a.L) (addIf (decide (12≤depth')) (addIf (decide (100≤(shL x a.L).length)) er' 3 (p+d)) 4 (p+d));obtain⟨E2,h4⟩:=h4 E1;refine⟨E2,fun t f' hf ht=>?_⟩;obtain⟨f',rfl⟩:∃g,f'=g+1:=⟨f'-1,by omega⟩;have hc0:¬(k+d=p+d∨kd<0):=by omega
   have hlen:(shL x a.L).length=a.L.length+1:=by simp[shL]
   show nodeF t (f'+1) (up+1) depth' _=_;unfold nodeF;dsimp only;rw[ht.sk hi,hp,ht.run (p:=letter) (by rfl) _ p (Nat.le_refl _) hpl,hk,ht.ex p k hpk hkl,hkd,if_neg hc0,k1 t ht];dsimp only;rw[hgr,hlen];exact h4 t f' (by omega) ht
end
section
theorem bat_l{a b:ByteArray}{i:Nat}(h:i<a.size):bat (a++b) i=bat a i:=by rw[bat_in (by rw[ByteArray.size_append];omega),bat_in h,ByteArray.getElem_append_left h]
theorem bat_r{a b:ByteArray}{i:Nat}:bat (a++b) (a.size+i)=bat b i:=by
 by_cases h:i<b.size;·rw[bat_in (by rw[ByteArray.size_append];omega),bat_in h,ByteArray.getElem_append_right (by omega)];congr 2;omega
 ·rw[bat_out h,bat_out (by rw[ByteArray.size_append];omega)]
def preU:ByteArray:=⟨#[115,116,97,99,107,91]⟩
theorem ins_of{s suf:ByteArray}(hs:bat suf 0=44):Ins s (preU++s++suf) 6:=by
 have e6:preU.size=6:=rfl;have hz:(preU++s).size=s.size+6:=by rw[ByteArray.size_append];omega
 refine⟨fun i hi=>?_,?_,fun i k hik hk=>?_⟩;·rw[bat_l (by omega),show i+6=preU.size+i by omega,bat_r]
 ·rw[<-hz,show(preU++s).size=(preU++s).size+0 from rfl,bat_r,hs]
 ·apply ByteArray.ext;apply Array.toList_inj.1;rw[ByteArray.data_extract,ByteArray.data_extract,Array.toList_extract,Array.toList_extract];simp only[List.extract];rw[ByteArray.toList_data_append,ByteArray.toList_data_append,List.append_assoc,show i+6=preU.data.toList.length+i by show i+6=6+i;omega,show k+6-(preU.data.toList.length+i)=k-i by show k+6-(6+i)=_;omega,<-List.drop_drop,List.drop_left,List.drop_append_of_le_length (by show i≤s.size;omega),List.take_append_of_le_length (by rw[List.length_drop];show k-i≤s.size-i;omega)]
theorem node_sk(s:ByteArray)(f:Nat)(up:Int)(depth i:Nat)(L:List Nd)(er:Flt):nodeF s (f+1) up depth ⟨sk s i,L,er⟩=nodeF s (f+1) up depth ⟨i,L,er⟩:=by unfold nodeF;dsimp only;rw[sk_sk]
theorem node_letter{s:ByteArray}{f:Nat}{up:Int}{depth:Nat}{st st':PS}(h:nodeF s f up depth st=.ok st'):letter (bat s (sk s st.i))=true:=by
 cases f with
 |zero=>cases h
 |succ f=>
  unfold nodeF at h;dsimp only at h;cases q:letter (bat s (sk s st.i))with
  |true=>rfl
  |false=>rw[run_stop q,if_pos (.inl rfl)]at h;cases h
def rtU(ks:List Nat):Nd:=⟨2,withoutL,[],ks,-1⟩
def gpU(a:List Int):Nd:=⟨6,a,[],[],0⟩
def SufIs(suf:ByteArray)(a:List Int):Prop:=bat suf 0=44∧∀(t:ByteArray) (m:Nat),(∀j,bat t (m+j)=bat suf j)->t.size=m+suf.size->(∀i k,t.extract (m+i) (m+k)=suf.extract i k)->∀f L er,∃E,(E=addIf (decide (100≤L.length)) er 3 (m+1))∧
 nodeF t (f+1) 0 1 ⟨m+1,L,er⟩=.ok ⟨m+suf.size-1,grown L (gpU a),E⟩∧bat t (m+suf.size-1)=93
theorem under_parse{s:ByteArray}{L:List Nd}(hp:parse s=.ok L):∃E:Flt,∀suf a,SufIs suf a->(preU++s++suf).size≤4000->parse (preU++s++suf)=match addIf (decide (100≤L.length+1)) E 3 (s.size+7)with
 |some f=>.error f
 |none=>.ok (shL (rtU [1,L.length+1]) L++[gpU a]):=by
 unfold parse at hp;split at hp;·cases hp
 split at hp;·cases hp
 rename_i st hst;split at hp;·cases hp
 rename_i hend;have hst2:nodeF s (s.size+1) (-1) 0 ⟨sk s 0,[],none⟩=.ok st:=by rw[node_sk];exact hst
 have hlt:=node_letter hst;obtain⟨hi,hE⟩:=node_in (d:=6) (s.size+1) (-1) 0 1 (rtU []) (rtU [1]) ⟨sk s 0,[],none⟩ (.inr ⟨rfl,rfl,rfl⟩) st hst2 (sk_le s 0 (Nat.zero_le _));obtain⟨E,hE⟩:=hE none;have hL:st.L=L:=by
  split at hp;·cases hp
  ·injection hp
 have hsk:sk s st.i=s.size:=by have:=sk_le s st.i hi;omega
 refine⟨E,fun suf a hs hz=>?_⟩;have hin:=ins_of (s:=s) hs.1;have e6:preU.size=6:=rfl;have hz6:(preU++s).size=s.size+6:=by rw[ByteArray.size_append];omega
 have hzt:(preU++s++suf).size=s.size+6+suf.size:=by rw[ByteArray.size_append,hz6]
 have hbr:∀j,bat (preU++s++suf) (s.size+6+j)=bat suf j:=fun j=>by rw[<-hz6];exact bat_r
 have hxr:∀i k,(preU++s++suf).extract (s.size+6+i) (s.size+6+k)=suf.extract i k:=fun i k=>by rw[<-hz6];exact ByteArray.extract_append_size_add
 have hbl:∀i,i<6->bat (preU++s++suf) i=bat preU i:=fun i h=>by rw[bat_l (by omega),bat_l (by omega)]
 have hx5:(preU++s++suf).extract 0 5=⟨#[115,116,97,99,107]⟩:=by apply ByteArray.ext;apply Array.toList_inj.1;rw[ByteArray.data_extract,Array.toList_extract];simp only[List.extract];rw[ByteArray.toList_data_append,ByteArray.toList_data_append,List.append_assoc,List.drop_zero,List.take_append_of_le_length (by decide)];rfl
 obtain⟨_,hs⟩:=hs;have hs:=hs _ _ hbr hzt hxr;generalize preU++s++suf=t at*;have hsz:0<suf.size:=by have:=hin.lt;omega
 have b0:bat t 0=115:=hbl 0 (by omega);have b1:bat t 1=116:=hbl 1 (by omega);have b2:bat t 2=97:=hbl 2 (by omega);have b3:bat t 3=99:=hbl 3 (by omega);have b4:bat t 4=107:=hbl 4 (by omega);have b5:bat t 5=91:=hbl 5 (by omega);have k0:sk t 0=0:=run_stop (by rw[b0];rfl);have k5:sk t 5=5:=run_stop (by rw[b5];rfl);have r0:run letter t 0=5:=by rw[run_step (by omega) (by rw[b0];rfl),run_step (by omega) (by rw[b1];rfl),run_step (by omega) (by rw[b2];rfl),run_step (by omega) (by rw[b3];rfl),run_step (by omega) (by rw[b4];rfl),run_stop (by rw[b5];rfl)]
 have kd:findF kindsL (⟨#[115,116,97,99,107]⟩:ByteArray) 0=2:=by decide
 have a5:attrsR t 2 [] 5 none=.ok (5,none,withoutL):=by unfold attrsR isAt;rw[k5,b5];rfl
 have m5:mustR t 5 91=.ok 6:=by unfold mustR isAt gotI;rw[k5,b5];rfl
 have s6:sk t 6=sk s 0+6:=hin.sk (i:=0) (Nat.zero_le _);have i6:isAt t 6 93=false:=by
  have:=hin.isAt (i:=0) (c:=93) (Nat.zero_le _) (by omega) (.inl (by omega));rw[Nat.zero_add]at this;rw[this];unfold isAt;cases q:bat s (sk s 0)==93 with
  |false=>rfl
  |true=>
   have q2:bat s (sk s 0)=93:=by simpa using q
   rw[q2]at hlt;cases hlt
 have hE2:=hE t t.size (by omega) hin;have i44:isAt t (st.i+6) 44=true:=by unfold isAt;rw[hin.sk hi,hsk,hin.com];rfl
 have g44:gotI t (st.i+6) 44=s.size+6+1:=by unfold gotI;rw[hin.sk hi,hsk,hin.com];rfl
 obtain⟨E3,hE3,hn3,b93⟩:=hs (t.size-1) (shL (rtU [1]) st.L) E;rw[show t.size-1+1=t.size by omega]at hn3;have sk93:sk t (s.size+6+suf.size-1)=s.size+6+suf.size-1:=run_stop (by rw[b93];rfl);have i44b:isAt t (s.size+6+suf.size-1) 44=false:=by unfold isAt;rw[sk93,b93];rfl
 have m93:mustR t (s.size+6+suf.size-1) 93=.ok (s.size+6+suf.size):=by unfold mustR isAt gotI;rw[sk93,b93];show Except.ok (s.size+6+suf.size-1+1)=_;rw[show s.size+6+suf.size-1+1=s.size+6+suf.size by omega]
 have hgr:grown (shL (rtU [1]) st.L) (gpU a)=shL (rtU [1,L.length+1]) L++[gpU a]:=by rw[hL];simp[grown,gpU,shL,rtU]
 have hkids:∃g,t.size+1=g+1+1:=⟨t.size-1,by omega⟩;obtain⟨g,hg⟩:=hkids;have hlen:(shL (rtU [1]) st.L).length=L.length+1:=by rw[hL];simp[shL]
 have hbody:bodyR t 2 0 (nodeF t t.size 0 1) ⟨5,[rtU []],none⟩=.ok ⟨t.size,shL (rtU [1,L.length+1]) L++[gpU a],E3⟩:=by unfold bodyR;rw[if_pos (by omega)];dsimp only;rw[m5];dsimp only;rw[i6,if_neg (by decide),hg,s6];unfold kidsF;have hE2':nodeF t t.size 0 1 ⟨sk s 0+6,[rtU []],none⟩=.ok ⟨st.i+6,shL (rtU [1]) st.L,E⟩:=hE2;rw[hE2'];dsimp only;rw[i44,if_pos rfl,g44];unfold kidsF;rw[hn3];dsimp only;rw[i44b,if_neg (by decide),m93,hgr,hzt]
 have hroot:nodeF t (t.size+1) (-1) 0 ⟨0,[],none⟩=.ok ⟨t.size,shL (rtU [1,L.length+1]) L++[gpU a],E3⟩:=by unfold nodeF;dsimp only;rw[k0,r0,hx5,kd,if_neg (by omega)];have e0:addIf (decide (12≤0)) (addIf (decide (100≤([]:List Nd).length)) none 3 0) 4 0=none:=rfl;rw[e0];have a5':attrsR t (2:Int).toNat [] 5 none=.ok (5,none,withoutL):=a5;rw[a5'];exact hbody
 unfold parse;rw[if_neg (by omega),hroot];dsimp only;rw[if_neg (by have:=sk_le t t.size (Nat.le_refl _);have:=sk_ge t t.size;omega),hE3,hlen,show s.size+6+1=s.size+7 by omega];cases addIf (decide (100≤L.length+1)) E 3 (s.size+7)<;>rfl
def sufU:ByteArray:=⟨#[44,103,97,112,93]⟩
def sufV:ByteArray:=⟨#[44,103,97,112,123,98,103,61,50,125,93]⟩
def atV:List Int:=[0,0,-1,1,0,0,1,0,1,0,2,0]
section
set_option linter.unusedSectionVars false
variable{t:ByteArray} {m:Nat} {suf:ByteArray} (hb:∀j,bat t (m+j)=bat suf j) (hz:t.size=m+suf.size) (hx:∀i k,t.extract (m+i) (m+k)=suf.extract i k)
include hb hz
theorem at_sk{j:Nat}(h:blank (bat suf j)=false):sk t (m+j)=m+j:=run_stop (by rw[hb];exact h)
theorem at_is{j c:Nat}(h:blank (bat suf j)=false):isAt t (m+j) c=(bat suf j==c):=by unfold isAt;rw[at_sk hb hz h,hb]
theorem at_got{j c:Nat}(h:blank (bat suf j)=false)(hc:bat suf j=c):gotI t (m+j) c=m+(j+1):=by unfold gotI;rw[at_sk hb hz h,hb,if_pos hc];rfl
theorem at_must{j c:Nat}(h:blank (bat suf j)=false)(hc:bat suf j=c):mustR t (m+j) c=.ok (m+(j+1)):=by unfold mustR;rw[at_is hb hz h,hc,if_pos (by simp),at_got hb hz h hc]
theorem at_run{p:Nat->Bool}:∀(c j:Nat),(∀i,i<c->p (bat suf (j+i))=true)->p (bat suf (j+c))=false->j+c≤suf.size->run p t (m+j)=m+(j+c)
 |0,j,_,h,_=>run_stop (by rw[hb];exact h)
 |c+1,j,h,h2,h3=>by rw[run_step (by omega) (by rw[hb];exact h 0 (by omega)),show m+j+1=m+(j+1)from rfl,at_run c (j+1) (fun i hi=>by rw[show j+1+i=j+(i+1)by omega];exact h (i+1) (by omega)) (by rw[show j+1+c=j+(c+1)by omega];exact h2) (by omega),show j+1+c=j+(c+1)by omega]
include hx
theorem gap_read{f:Nat}{L:List Nd}{er:Flt}{i2:Nat}{a:List Int}(h4:bat suf 1=103∧bat suf 2=97∧bat suf 3=112∧letter (bat suf 4)=false∧5≤suf.size)(he:suf.extract 1 4=⟨#[103,97,112]⟩)(ha:∀er,attrsR t 6 L (m+4) er=.ok (i2,er,a)):
 nodeF t (f+1) 0 1 ⟨m+1,L,er⟩=.ok ⟨i2,grown L (gpU a),addIf (decide (100≤L.length)) er 3 (m+1)⟩:=by
 obtain⟨q1,q2,q3,q4,q5⟩:=h4;have r1:run letter t (m+1)=m+4:=at_run hb hz (p:=letter) 3 1 (fun i hi=>by
  match i,hi with
  |0,_=>rw[q1];rfl
  |1,_=>rw[q2];rfl
  |2,_=>rw[q3];rfl) q4 (by omega);have kd:findF kindsL (⟨#[103,97,112]⟩:ByteArray) 0=6:=by decide
 unfold nodeF;dsimp only;rw[at_sk hb hz (j:=1) (by rw[q1];rfl),r1,hx 1 4,he,kd,if_neg (by omega)];have e0:∀e:Flt,addIf (decide (12≤1)) e 4 (m+1)=e:=fun e=>rfl;rw[e0];have ha':∀er,attrsR t (6:Int).toNat L (m+4) er=.ok (i2,er,a):=ha;rw[ha'];rfl
end
theorem suf_u:SufIs sufU withoutL:=⟨rfl,fun t m hb hz hx f L er=>⟨_,rfl,by
 have ha:∀er,attrsR t 6 L (m+4) er=.ok (m+4,er,withoutL):=fun er=>by unfold attrsR;rw[at_is hb hz (j:=4) (by rfl),if_neg (by decide),at_sk hb hz (j:=4) (by rfl)]
 exact gap_read hb hz hx ⟨by rfl,by rfl,by rfl,by rfl,by decide⟩ (by rfl) ha,by
 have:m+sufU.size-1=m+4:=by show m+5-1=_;omega
 rw[this,hb];rfl⟩⟩
theorem suf_v:SufIs sufV atV:=⟨rfl,fun t m hb hz hx f L er=>⟨_,rfl,by
 have hz11:sufV.size=11:=rfl;have h1:∀er,attr1 t 6 L (m+5) er withoutL []=.ok (m+9,er,atV,[10]):=fun er=>by
  have k1:=at_sk hb hz (j:=5) (by rfl);have k2:run letter t (m+5)=m+7:=at_run hb hz (p:=letter) 2 5 (fun i hi=>by
   match i,hi with
   |0,_=>rfl
   |1,_=>rfl) (by rfl) (by decide);have k3:=at_must hb hz (j:=7) (c:=61) (by rfl) (by rfl);have k4:=at_sk hb hz (j:=8) (by rfl);have k5:run digit t (m+8)=m+9:=at_run hb hz (p:=digit) 1 8 (fun i hi=>by
   match i,hi with
   |0,_=>rfl) (by rfl) (by decide);have k6:numBad t (m+8) (m+9)=false:=by unfold numBad;rw[decide_eq_false_iff_not];omega
  have k7:dv t (m+8) (m+9-(m+8))=2:=by rw[show m+9-(m+8)=1 by omega];unfold dv dv;rw[Nat.add_zero,hb];rfl
  have k8:t.extract (m+5) (m+7)=⟨#[98,103]⟩:=by rw[hx];rfl
  have k9:findF namesL (⟨#[98,103]⟩:ByteArray) 0=10:=by decide
  unfold attr1;dsimp only;rw[k1,k2,if_neg (by omega),k3];dsimp only;rw[k4,k5,k6,if_neg (by decide),k7,k8,k9];rw[if_neg (by decide)];rfl
 have ha:∀er,attrsR t 6 L (m+4) er=.ok (m+10,er,atV):=fun er=>by unfold attrsR;rw[at_is hb hz (j:=4) (by rfl),if_pos (by rfl),at_got hb hz (j:=4) (by rfl) (by rfl)];unfold attrsF;rw[h1];dsimp only;rw[at_is hb hz (j:=9) (by rfl),if_neg (by decide),at_must hb hz (j:=9) (by rfl) (by rfl)]
 exact gap_read hb hz hx ⟨by rfl,by rfl,by rfl,by rfl,by decide⟩ (by rfl) ha,by
 have:m+sufV.size-1=m+10:=by show m+11-1=_;omega
 rw[this,hb];rfl⟩⟩
theorem under_both{s:ByteArray}{L La:List Nd}(hp:parse s=.ok L)(ha:parse (preU++s++sufU)=.ok La):
 La=shL (rtU [1,L.length+1]) L++[gpU withoutL]∧((preU++s++sufV).size≤4000->parse (preU++s++sufV)=.ok (shL (rtU [1,L.length+1]) L++[gpU atV])):=by
 obtain⟨E,h⟩:=under_parse hp;have hza:(preU++s++sufU).size≤4000:=by
  by_cases q:4000<(preU++s++sufU).size;·unfold parse at ha;rw[if_pos q]at ha;cases ha
  ·omega
 have h1:=h sufU withoutL suf_u hza;rw[h1]at ha;cases q:addIf (decide (100≤L.length+1)) E 3 (s.size+7)with
 |some x=>rw[q]at ha;cases ha
 |none=>rw[q]at ha;injection ha with ha;refine⟨ha.symm,fun hz=>?_⟩;have h2:=h sufV atV suf_v hz;rw[q]at h2;exact h2
end
section
theorem SplitIs.cong3{n:Nat}{mn mx wt mn' mx' wt':Nat->Int}{r:Int}{g:Nat->Int}(h:SplitIs n mn mx wt r g)(e1:∀j,j<n->mn j=mn' j)(e2:∀j,j<n->mx j=mx' j)(e3:∀j,j<n->wt j=wt' j):SplitIs n mn' mx' wt' r g:=by
 have es:sumL mn (List.range n)=sumL mn' (List.range n):=sumL_congr fun j hj=>e1 j (List.mem_range.1 hj);rcases h with⟨h1,h2⟩|⟨h1,A,S,L,V,m,h2⟩
 ·refine .inl ⟨by rw[<-es];exact h1,fun j hj=>?_,h2.sum,fun i k hik hk q=>?_⟩;·rw[<-e1 j hj];exact h2.bd j hj
  ·rw[<-e1 i (by omega)]at q;exact h2.behind i k hik hk q
 ·have f:=h2.facts;have hA:=fun j hj=>(f.2.2.2.1 j hj).1;have hS:=fun j hj=>(f.2.2.2.2.1 j hj).1;have ew:sumL wt S=sumL wt' S:=sumL_congr fun j hj=>e3 j (hS j hj);refine .inr ⟨by rw[<-es];exact h1,A,S,L,V,m,?_,?_,h2.pos,by rw[<-ew];exact h2.weight,fun j hj=>?_,fun j hj=>?_,fun hne=>?_,h2.none_,?_,fun j hj=>?_⟩;·have:(List.range n).filter (fun j=>decide (0<wt' j))=(List.range n).filter (fun j=>decide (0<wt j)):=List.filter_congr (fun j hj=>by rw[e3 j (List.mem_range.1 hj)]);rw[this];exact h2.perm
  ·have ea:sumL (fun j=>mx j-mn j) A=sumL (fun j=>mx' j-mn' j) A:=sumL_congr fun j hj=>by rw[e1 j (hA j hj),e2 j (hA j hj)]
   rw[<-es,<-ea];exact h2.left
  ·rw[<-e1 j (hA j hj),<-e2 j (hA j hj),<-e3 j (hA j hj)];exact h2.full j hj
  ·rw[<-e1 j (hS j hj),<-e2 j (hS j hj),<-e3 j (hS j hj)];exact h2.open_ j hj
  ·have ea:sumL (fun j=>L*wt j/V) S=sumL (fun j=>L*wt' j/V) S:=sumL_congr fun j hj=>by rw[e3 j (hS j hj)]
   rw[<-ea];exact h2.miss hne
  ·exact h2.sorted.imp_of_mem (fun{a b} ha hb q=>by rw[<-e3 a (hS a ha),<-e3 b (hS b hb)];exact q)
  ·rw[<-e1 j hj,<-e2 j hj,<-e3 j hj];exact h2.is j hj
section
variable{L:List Nd} {r g:Nd}
theorem nth_sh{k:Nat}(hk:k<L.length):nth (shL r L++[g]) (k+1)=sh1 (nth L k):=by unfold nth shL;rw[List.cons_append,List.getElem?_cons_succ,List.getElem?_append_left (by simpa using hk),List.getElem?_map,List.getElem?_eq_getElem hk];rfl
theorem nth_sh0:nth (shL r L++[g]) 0=r:=rfl
theorem nth_shN:nth (shL r L++[g]) (L.length+1)=g:=by unfold nth shL;rw[List.cons_append,List.getElem?_cons_succ];simp
theorem len_sh:(shL r L++[g]).length=L.length+2:=by simp[shL]
theorem kdn_sh{ks:List Nat}{j:Nat}(hj:j<ks.length):kdn (ks.map (·+1)) j=kdn ks j+1:=by unfold kdn;simp[hj]
theorem kidspl_sh{ks:List Nat}{N N':Nat->Int}{room gap:Int}{gg:Nat->Int}(hk:∀j,j<ks.length->kdn ks j<L.length)(hN:∀j,j<ks.length->N j=N' j)(h:KidSpl L ks N room gap gg):KidSpl (shL r L++[g]) (ks.map (·+1)) N' room gap gg:=by
 unfold KidSpl at h⊢;rw[List.length_map];refine SplitIs.cong3 h (fun j hj=>?_) (fun j hj=>?_) (fun j hj=>?_);all_goals
  rw[kdn_sh hj,nth_sh (hk j hj)];try rw[hN j hj]
  rfl
theorem nodeW_sh(d:Nd)(f:Nat->Int):nodeW (sh1 d) f=nodeW d f:=by unfold nodeW sh1 atN;simp
theorem nodeH_sh(d:Nd)(f:Nat->Int):nodeH (sh1 d) f=nodeH d f:=by unfold nodeH sh1 atN;simp
variable{s:ByteArray} {Wd Wa:Nat->Int} {H Ha:Nat->Int->Int}
theorem sz_sh(U:World)(hT:Tree s L)(hS:Sz L Wd H)(hSa:Sz (shL r L++[g]) Wa Ha):∀m k,L.length≤k+m->k<L.length->Wa (k+1)=Wd k∧∀w,Ha (k+1) w=H k w
 |0,k,h,hk=>by omega
 |m+1,k,h,hk=>by
  have ih:=fun j (hj:j<(nth L k).kids.length)=>sz_sh U hT hS hSa m (kdn (nth L k).kids j) (by have:=(kid_lt hT hk hj).1;omega) (kid_lt hT hk hj).2;have en:=nth_sh (r:=r) (g:=g) hk;have hl:k+1<(shL r L++[g]).length:=by rw[len_sh];omega
  have ek:(nth (shL r L++[g]) (k+1)).kids=(nth L k).kids.map (·+1):=by rw[en];rfl
  have ea:∀i,atN (nth (shL r L++[g]) (k+1)) i=atN (nth L k) i:=fun i=>by rw[en];rfl
  have ed:(nth (shL r L++[g]) (k+1)).kind=(nth L k).kind:=by rw[en];rfl
  have hw:∀j,j<(nth L k).kids.length->Wa (kdn ((nth L k).kids.map (·+1)) j)=Wd (kdn (nth L k).kids j):=fun j hj=>by rw[kdn_sh hj,(ih j hj).1]
  refine⟨?_,fun w=>?_⟩;·rw[hSa.w (k+1) hl,hS.w k hk,ek,en,nodeW_sh];exact nodeW_congr hw
  ·by_cases h5:(nth L k).kind=5;·rw[hSa.ht (k+1) w hl (by rw[ed];exact h5),hS.ht k w hk h5,ea,en];rfl
   ·by_cases h0:(nth L k).kind=0
    ·have key:∃gg:Nat->Int,((nth L k).kids=[]∨KidSpl L (nth L k).kids (fun j=>Wd (kdn (nth L k).kids j)) w (atN (nth L k) 4) gg):=by
      by_cases e:(nth L k).kids=[];·exact⟨fun _=>0,.inl e⟩
      ·obtain⟨gg,hg⟩:=kidspl_ex L (nth L k).kids (fun j=>Wd (kdn (nth L k).kids j)) w (atN (nth L k) 4) U (List.length_pos_iff.2 e) (by have:=hT.kids_le hk;omega);exact⟨gg,.inr hg⟩
     obtain⟨gg,hg⟩:=key;rw[hS.hr k w gg hk h0 hg,hSa.hr (k+1) w gg hl (by rw[ed];exact h0) (by
      rw[ek,ea];rcases hg with e|hg;·exact .inl (by rw[e];rfl)
      ·exact .inr (kidspl_sh (fun j hj=>(kid_lt hT hk hj).2) (fun j hj=>(hw j hj).symm) hg)),ek,en,nodeH_sh];exact nodeH_congr fun j hj=>by rw[kdn_sh hj];exact(ih j hj).2 _
    ·rw[hS.ho k w hk h5 h0,hSa.ho (k+1) w hl (by rw[ed];exact h5) (by rw[ed];exact h0),ek,en,nodeH_sh];exact nodeH_congr fun j hj=>by rw[kdn_sh hj];exact(ih j hj).2 _
theorem krspec_sh{kd a4 a5 a6:Int}{ks:List Nat}{x y w h of rm:Int}{R0 R1 R2 R3:Nat->Int}(hk:∀j,j<ks.length->kdn ks j<L.length)(hW:∀k,k<L.length->Wa (k+1)=Wd k∧∀w,Ha (k+1) w=H k w)(q:KrSpec kd a4 a5 a6 L ks Wd H x y w h of rm R0 R1 R2 R3):
 KrSpec kd a4 a5 a6 (shL r L++[g]) (ks.map (·+1)) Wa Ha x y w h of rm R0 R1 R2 R3:=by
 have hl:(ks.map (·+1)).length=ks.length:=List.length_map _;refine⟨fun e=>?_,fun e=>?_,fun e=>?_,fun e=>?_,fun e1 e2 e3 e4=>?_⟩
 ·obtain⟨G,g1,g2,g3⟩:=q.row e;refine⟨G,?_,by rw[hl];exact g2,by rw[hl];exact g3⟩;rcases g1 with e|g1;·exact .inl (by rw[e];rfl)
  ·exact .inr (kidspl_sh hk (fun j hj=>by rw[kdn_sh hj,(hW _ (hk j hj)).1]) g1)
 ·obtain⟨G,g1,g2,g3⟩:=q.col e;refine⟨G,?_,by rw[hl];exact g2,by rw[hl];exact g3⟩;rcases g1 with e|g1;·exact .inl (by rw[e];rfl)
  ·exact .inr (kidspl_sh hk (fun j hj=>by rw[kdn_sh hj,(hW _ (hk j hj)).2]) g1)
 ·rw[hl];exact q.box e
 ·rw[hl];exact q.scr e
 ·rw[hl];exact q.rest e1 e2 e3 e4
def rtv(w h:Int)(t:Nat):Int:=if t=2∨t=6 then w else if t=3∨t=7 then h else 0
def undP(n:Nat)(w h:Int)(P:Nat->Nat->Int)(k t:Nat):Int:=if k=0∨n<k then rtv w h t else P (k-1) t
theorem undP_0{n:Nat}{w h:Int}{P:Nat->Nat->Int}{k t:Nat}(hk:k=0∨n<k):undP n w h P k t=rtv w h t:=by unfold undP;rw[if_pos hk]
theorem undP_s{n:Nat}{w h:Int}{P:Nat->Nat->Int}{k t:Nat}(hk:k<n):undP n w h P (k+1) t=P k t:=by unfold undP;rw[if_neg (by omega)];rfl
theorem cap_whole{w h:Int}(hw:1≤w∧w≤400)(hh:1≤h∧h≤400):cap0 0 0 w h 0 0 w h=0∧cap1 0 0 w h 0 0 w h=0∧cap2 0 0 w h 0 0 w h=w∧cap3 0 0 w h 0 0 w h=h:=by
 have e1:lenI w=w:=by unfold lenI;omega
 have e2:lenI h=h:=by unfold lenI;omega
 have e0:posI 0=0:=by unfold posI;omega
 have hc:¬(capL 0 w 0 w≥capR 0 w 0 w∨capL 0 h 0 h≥capR 0 h 0 h):=by unfold capL capR;rw[e0,e1,e2];omega
 unfold cap0 cap1 cap2 cap3;rw[if_neg hc,if_neg hc,if_neg hc,if_neg hc];unfold capL capR;rw[e0,e1,e2];omega
theorem pl_sh{w h:Int}{idf off:Nat->Int}{sn:Nat}{P:Nat->Nat->Int}(hw:1≤w∧w≤400)(hh:1≤h∧h≤400)(hT:Tree s L)(hr:r.kind=2∧r.kids=[1,L.length+1])(hg:g.kind=6∧g.kids=[])(hW:∀k,k<L.length->Wa (k+1)=Wd k∧∀w,Ha (k+1) w=H k w)
 (hp:PlTo L Wd H w h idf off sn P L.length):PlTo (shL r L++[g]) Wa Ha w h idf off sn (undP L.length w h P) (shL r L++[g]).length:=by
 have hpos:=hT.pos;obtain⟨p0,p1,p2,p3,p4,p5,p6,p7⟩:=hp.root;have hc:=cap_whole hw hh;have hplv:∀t,t<8->rtv w h t=plV (undP L.length w h P) 0 0 0 w h t:=fun t ht=>by
  have u:=fun t=>undP_0 (n:=L.length) (w:=w) (h:=h) (P:=P) (k:=0) (t:=t) (.inl rfl);unfold plV;rw[u,u,u,u];have e4:rtv w h 4=0:=rfl;have e5:rtv w h 5=0:=rfl;have e6:rtv w h 6=w:=rfl;have e7:rtv w h 7=h:=rfl;rw[e4,e5,e6,e7,hc.1,hc.2.1,hc.2.2.1,hc.2.2.2];match t,ht with
  |0,_=>rfl
  |1,_=>rfl
  |2,_=>rfl
  |3,_=>rfl
  |4,_=>rfl
  |5,_=>rfl
  |6,_=>rfl
  |7,_=>rfl
 have hp0:∀t,t<8->P 0 t=rtv w h t:=fun t ht=>by
  match t,ht with
  |0,_=>exact p0
  |1,_=>exact p1
  |2,_=>exact p2
  |3,_=>exact p3
  |4,_=>exact p4
  |5,_=>exact p5
  |6,_=>exact p6
  |7,_=>exact p7
 have part:∀i,i<(shL r L++[g]).length->i=0∨(∃k,i=k+1∧k<L.length)∨i=L.length+1:=fun i hi=>by
  rw[len_sh]at hi;by_cases e:i=0;·exact .inl e
  ·by_cases e2:i=L.length+1;·exact .inr (.inr e2)
   ·exact .inr (.inl ⟨i-1,by omega,by omega⟩)
 refine⟨?_,fun i hi hi2 h4=>?_,fun i hi hn=>?_,fun i hi hi2=>?_,fun i hi=>?_⟩;·have u:=fun t=>undP_0 (n:=L.length) (w:=w) (h:=h) (P:=P) (k:=0) (t:=t) (.inl rfl);rw[u,u,u,u,u,u,u,u];exact⟨rfl,rfl,rfl,rfl,rfl,rfl,rfl,rfl⟩
 ·rcases part i hi with rfl|⟨k,rfl,hk⟩|rfl;·rw[nth_sh0,hr.1]at h4;omega
  ·rw[nth_sh hk]at h4⊢;have h4':(nth L k).kind=4:=h4;have hkl:0<(nth L k).kids.length:=by
    rcases hT.kidok k hk with q|⟨_,_,q⟩|⟨q,_⟩;·omega
    ·omega
    ·omega
   obtain⟨a,b⟩:=hp.sc k hk hk h4';have ek:(sh1 (nth L k)).kids=(nth L k).kids.map (·+1):=rfl;rw[undP_s hk,undP_s hk,undP_s hk,undP_s hk,ek,kdn_sh hkl,(hW _ (kid_lt hT hk hkl).2).2];exact⟨a,b⟩
  ·rw[nth_shN,hg.1]at h4;omega
 ·rcases part i hi with rfl|⟨k,rfl,hk⟩|rfl;·rw[undP_0 (.inl rfl),undP_0 (.inl rfl)];exact⟨rfl,rfl⟩
  ·rw[undP_s hk,undP_s hk];refine hp.no k hk (.inr ?_);rcases hn with q|q;·rw[len_sh]at q;omega
   ·rw[nth_sh hk]at q;exact q
  ·rw[undP_0 (.inr (by omega)),undP_0 (.inr (by omega))];exact⟨rfl,rfl⟩
 ·rcases part i hi with rfl|⟨k,rfl,hk⟩|rfl
  ·refine⟨fun _=>0,fun _=>0,fun _=>w,fun _=>h,?_,?_⟩;·rw[nth_sh0,hr.1,hr.2];refine⟨fun e=>absurd e (by decide),fun e=>absurd e (by decide),fun e=>absurd e (by decide),fun e=>absurd e (by decide),fun _ _ _ _ j hj=>?_⟩;rw[undP_0 (.inl rfl),undP_0 (.inl rfl),undP_0 (.inl rfl),undP_0 (.inl rfl)];exact⟨rfl,rfl,rfl,rfl⟩
   ·rw[nth_sh0,hr.2];intro j hj t ht;rw[<-hplv t ht];match j,hj with
    |0,_=>show undP L.length w h P (0+1) t=_;rw[undP_s hpos,hp0 t ht]
    |1,_=>show undP L.length w h P (L.length+1) t=_;rw[undP_0 (.inr (by omega))]
  ·obtain⟨R0,R1,R2,R3,q1,q2⟩:=hp.kr k hk hk;have ek:(sh1 (nth L k)).kids=(nth L k).kids.map (·+1):=rfl;refine⟨R0,R1,R2,R3,?_,?_⟩;·rw[nth_sh hk,ek,undP_s hk,undP_s hk,undP_s hk,undP_s hk,undP_s hk,undP_s hk];exact krspec_sh (fun j hj=>(kid_lt hT hk hj).2) hW q1
   ·rw[nth_sh hk,ek,List.length_map];intro j hj t ht;rw[kdn_sh hj,undP_s (kid_lt hT hk hj).2,q2 j hj t ht];unfold plV;rw[undP_s hk,undP_s hk,undP_s hk,undP_s hk]
  ·refine⟨fun _=>0,fun _=>0,fun _=>0,fun _=>0,?_,?_⟩;·rw[nth_shN,hg.1,hg.2];exact⟨fun e=>absurd e (by decide),fun e=>absurd e (by decide),fun e=>absurd e (by decide),fun e=>absurd e (by decide),fun _ _ _ _ j hj=>absurd hj (by simp)⟩
   ·rw[nth_shN,hg.2];intro j hj;exact absurd hj (by simp)
 ·rcases part i hi with rfl|⟨k,rfl,hk⟩|rfl;·rw[undP_0 (.inl rfl),undP_0 (.inl rfl),undP_0 (.inl rfl),undP_0 (.inl rfl)];show _≤(0:Int)∧(0:Int)≤_∧_≤(0:Int)∧(0:Int)≤_∧0≤w∧w≤_∧0≤h∧h≤_;omega
  ·rw[undP_s hk,undP_s hk,undP_s hk,undP_s hk];have:=hp.bd k hk;omega
  ·rw[undP_0 (.inr (by omega)),undP_0 (.inr (by omega)),undP_0 (.inr (by omega)),undP_0 (.inr (by omega))];show _≤(0:Int)∧(0:Int)≤_∧_≤(0:Int)∧(0:Int)≤_∧0≤w∧w≤_∧0≤h∧h≤_;omega
theorem und_places{w h:Int}{idf off:Nat->Int}{sn:Nat}{P Q:Nat->Nat->Int}{t:ByteArray}(U:World)(hw:1≤w∧w≤400)(hh:1≤h∧h≤400)(hT:Tree s L)(hTa:Tree t (shL r L++[g]))(hr:r.kind=2∧r.kids=[1,L.length+1])(hg:g.kind=6∧g.kids=[])(hS:Sz L Wd H)(hSa:Sz (shL r L++[g]) Wa Ha)
 (hp:PlTo L Wd H w h idf off sn P L.length) (hq:PlTo (shL r L++[g]) Wa Ha w h idf off sn Q (shL r L++[g]).length):∀i,i<L.length+2->∀t,t<10->Q i t=undP L.length w h P i t:=fun i hi=>
 PlTo.uniq hTa hq (pl_sh hw hh hT hr hg (fun k hk=>sz_sh U hT hS hSa L.length k (by omega) hk) hp) (i+1) i (by omega) (by rw[len_sh];exact hi)
end
end
section
section
variable{L:List Nd} {g:Nd} {ks:List Nat}
theorem stA_sh(hu:∀i:Nat,i<L.length->(nth L i).up<i∧-1≤(nth L i).up):∀f i,i<L.length->i≤f->stA (shL (rtU ks) L++[g]) (f+2) (i+1)=stA L (f+1) i
 |f,i,hi,hf=>by
  obtain⟨h1,h2⟩:=hu i hi;have key:stA (shL (rtU ks) L++[g]) (f+1) ((nth L i).up+1).toNat=if 0≤(nth L i).up then stA L f (nth L i).up.toNat else(0,0,0):=by
   by_cases h0:0≤(nth L i).up;·rw[if_pos h0];obtain⟨f',rfl⟩:∃f',f=f'+1:=⟨f-1,by omega⟩;rw[show((nth L i).up+1).toNat=(nth L i).up.toNat+1 by omega];exact stA_sh hu f' _ (by omega) (by omega)
   ·rw[if_neg h0,show((nth L i).up+1).toNat=0 by omega];rfl
  conv=>lhs;unfold stA
  conv=>rhs;unfold stA
  have eu:(nth (shL (rtU ks) L++[g]) (i+1)).up=(nth L i).up+1:=by rw[nth_sh hi];rfl
  have ea:∀k,atN (nth (shL (rtU ks) L++[g]) (i+1)) k=atN (nth L i) k:=fun k=>by rw[nth_sh hi];rfl
  have hpos:0≤(nth L i).up+1:=by omega
  simp only[eu,ea,key,if_pos hpos];by_cases h0:0≤(nth L i).up;·simp only[if_pos h0]
  ·simp only[if_neg h0]
theorem sty_sh(hu:∀i:Nat,i<L.length->(nth L i).up<i∧-1≤(nth L i).up){i:Nat}(hi:i<L.length):sty (shL (rtU ks) L++[g]) (i+1)=sty L i:=stA_sh hu i i hi (Nat.le_refl _)
theorem sty_gap(a:List Int):sty (shL (rtU ks) L++[gpU a]) (L.length+1)=(ov 0 (a[9]?.getD 0),ov 0 (a[10]?.getD 0),obo 0 (a[11]?.getD 0)):=by
 unfold sty;conv=>lhs;unfold stA
 rw[nth_shN];rfl
variable{W H:Nat} {P Q:Nat->Nat->Int}
theorem frK_sh(hu:∀i:Nat,i<L.length->(nth L i).up<i∧-1≤(nth L i).up)(hq:∀i,i<L.length+2->∀t,t<10->Q i t=undP L.length W H P i t):∀k,k≤L.length->frK W H (shL (rtU ks) L++[g]) Q (k+1)=frK W H L P k
 |0,_=>rfl
 |k+1,hk=>by
  have hl:k<L.length:=by omega
  have e:=fun t ht=>(hq (k+1) (by omega) t ht).trans (undP_s (n:=L.length) (w:=W) (h:=H) (P:=P) (t:=t) hl);conv=>lhs;unfold frK
  conv=>rhs;unfold frK
  rw[frK_sh hu hq k (by omega),sty_sh hu hl,nth_sh hl,e 0 (by omega),e 1 (by omega),e 2 (by omega),e 3 (by omega),e 4 (by omega),e 5 (by omega),e 6 (by omega),e 7 (by omega)];rfl
theorem frK_u(hu:∀i:Nat,i<L.length->(nth L i).up<i∧-1≤(nth L i).up)(hq:∀i,i<L.length+2->∀t,t<10->Q i t=undP L.length W H P i t):frK W H (shL (rtU ks) L++[gpU withoutL]) Q (L.length+2)=frK W H L P L.length:=by
 rw[<-frK_sh (ks:=ks) (g:=gpU withoutL) hu hq L.length (Nat.le_refl _)];conv=>lhs;unfold frK
 rw[nth_shN];rfl
theorem frK_v(hW:1≤W∧W≤400)(hH:1≤H∧H≤400)(hq:∀i,i<L.length+2->∀t,t<10->Q i t=undP L.length W H P i t){y x:Nat}(hy:y<H)(hx:x<W):frK W H (shL (rtU ks) L++[gpU atV]) Q (L.length+2) y x=bk 0 2 0:=by
 have e:=fun t ht=>(hq (L.length+1) (by omega) t ht).trans (undP_0 (n:=L.length) (w:=W) (h:=H) (P:=P) (t:=t) (.inr (by omega)));conv=>lhs;unfold frK
 rw[sty_gap,nth_shN,e 0 (by omega),e 1 (by omega),e 2 (by omega),e 3 (by omega),e 4 (by omega),e 5 (by omega),e 6 (by omega),e 7 (by omega)];show filC W H _ 0 0 W H 0 2 0 0 0 W H y x=_;have hs:=seen_facts (W:=(W:Int)) (H:=(H:Int)) (by omega) (by omega) 0 0 W H 0 0 W H;have e0:posI 0=0:=by unfold posI;omega
 have e1:lenI (W:Int)=W:=by unfold lenI;omega
 have e2:lenI (H:Int)=H:=by unfold lenI;omega
 have hm:=(hs.mem x y).2 (by rw[e0,e1,e2];omega);have hl:=hs.l0;have ht:=hs.t0;unfold filC fill;rw[if_pos (by omega)];unfold span;rw[if_pos (by omega)];rfl
end
end
section
open Go.RowKit Go.Sort Go.Proofs.Tryz
theorem ok_of_parse{t:ByteArray}{L:List Nd}(h:parse t=.ok L):pTree t=.ok L:=by
 cases hp:pTree t with
 |error x=>rw[parse_of_err hp]at h;cases h
 |ok L'=>rw[parse_of_ok hp]at h;injection h with h;rw[h]
theorem Tree.ups{s:ByteArray}{L:List Nd}(hT:Tree s L)(i:Nat)(hi:i<L.length):(nth L i).up<i∧-1≤(nth L i).up:=⟨hT.nest.upl i hi,hT.nest.lo i hi⟩
theorem punder_walk(t:ByteArray)(w h:Int)(E:Nat->Addr)(W0:World)(hG:Glo W0 E)(hA:Apart W0 E)(hE:ErT W0)(ht:TabAt W0)(hts:t.size≤140737488351232):
 Calls prog 4 #[.string t,Iq w,Iq h] W0 fun e W'=>e=.returned (.bool true)∧Below W0.heap.size W0 W':=by
 have hmix:prog.follows .mixedOrders=true:=by kernel_rfl
 obtain⟨ta,hta⟩:∃z,(⟨#[115,116,97,99,107,91]⟩:ByteArray)++t++⟨#[44,103,97,112,93]⟩=z:=⟨_,rfl⟩;obtain⟨tb,htb⟩:∃z,(⟨#[115,116,97,99,107,91]⟩:ByteArray)++t++⟨#[44,103,97,112,123,98,103,61,50,125,93]⟩=z:=⟨_,rfl⟩;have l1:¬9223372036854775807<6+t.size:=by omega
 have l2:¬9223372036854775807<6+t.size+5:=by omega
 have l3:¬9223372036854775807<6+t.size+11:=by omega
 have hta':preU++t++sufU=ta:=hta;have htb':preU++t++sufV=tb:=htb;have RT:Hid (∀u,Calls prog 5 #[.string t,Iq w,Iq h] u fun e U'=>e=.returned (.bool (rightB t w h))∧Hid (Below u.heap.size u U')):=fun u=>right_any t w h u;have RA:Hid (∀u,Calls prog 5 #[.string ta,Iq w,Iq h] u fun e U'=>e=.returned (.bool (rightB ta w h))∧Hid (Below u.heap.size u U')):=fun u=>right_any ta w h u;have NU:Hid (∀n u,Calls prog 8 #[Iq n] u fun e w'=>e=.returned (Iq n)∧w'=u):=lnum_any;have FR:Hid (∀x u,Below W0.heap.size W0 u->Calls prog 6 #[.string x,Iq w,Iq h,.slice none 0 0] u fun e u'=>FrOut u u' w h (fun _=>0) (fun _=>0) 0 (pTree x) e):=fun x u hu=>pframe_any x w h none 0 0 _ _ E u (hG.cells hu) (hA.below hu) (hE.below hu) (ht.below hu) (.inl rfl) (by omega) (fun a e=>by cases e);clear hG hA hE ht;by_cases hr:rightP t w h
 ·rw[rightB_yes hr]at RT;obtain⟨L,hp,hb⟩:=hr;obtain⟨W,rfl⟩:∃W:Nat,w=(W:Int):=⟨w.toNat,by omega⟩;obtain⟨H,rfl⟩:∃H:Nat,h=(H:Int):=⟨h.toNat,by omega⟩;have hW:1≤W∧W≤400:=by omega
  have hH:1≤H∧H≤400:=by omega
  have hpp:=parse_of_ok hp;have hT:=parse_tree hpp;obtain⟨n,hn⟩:=nmd (W*H);have hnb:1≤n∧n≤160000:=by rw[<-hn];exact⟨Nat.mul_le_mul hW.1 hH.1,Nat.mul_le_mul hW.2 hH.2⟩
  have hnI:(W:Int)*(H:Int)=(n:Int):=by rw[<-hn];exact(Int.natCast_mul W H).symm
  have HN:=qH hn;have F1:Hid (∀u,Below W0.heap.size W0 u->Calls prog 6 #[.string t,Iq W,Iq H,.slice none 0 0] u fun e u'=>∃N cap,e=.returned (.tuple #[Sq N n cap,Iq 0,Iq 0])∧Hid (∃P Wd Hf,Sz L Wd Hf∧PlTo L Wd Hf W H (fun _=>0) (fun _=>0) 0 P L.length∧Cv 34 u' N W H (frK W H L P L.length))∧Hid (Below u.heap.size u u')):=fun u hu=>(FR t u hu).mono fun e u' q=>by
   rw[hp]at q;obtain⟨hb',q⟩:=q;rcases q with⟨q,_⟩|⟨W',H',e1,e2,_,_,N,cap,P,Wd,Hf,q1,q2,q3,q4,_⟩;·exact absurd hb q
   ·obtain rfl:W=W':=by omega
    obtain rfl:H=H':=by omega
    rw[<-hn];exact⟨N,cap,q3,⟨P,Wd,Hf,q1,q2,q4⟩,hb'⟩
  by_cases ha:rightP ta W H∧tb.size≤4000
  ·obtain⟨ha,hz⟩:=ha;rw[rightB_yes ha]at RA;obtain⟨La,hpa,_⟩:=ha;have hpa':=parse_of_ok hpa;rw[<-hta']at hpa';obtain⟨hLa,hLb⟩:=under_both hpp hpa';have hpb:=hLb (by rw[htb'];exact hz);rw[hLa]at hpa hpa';rw[htb']at hpb;have hTa:=parse_tree hpa';have hTb:=parse_tree hpb;have hpb':=ok_of_parse hpb;have F2:Hid (∀P Wd Hf,Sz L Wd Hf->PlTo L Wd Hf W H (fun _=>0) (fun _=>0) 0 P L.length->∀u,Below W0.heap.size W0 u->Calls prog 6 #[.string ta,Iq W,Iq H,.slice none 0 0] u fun e u'=>∃N cap,e=.returned (.tuple #[Sq N n cap,Iq 0,Iq 0])∧Hid (Cv 34 u' N W H (frK W H L P L.length))∧Hid (Below u.heap.size u u')):=fun P Wd Hf hS hP u hu=>(FR ta u hu).mono fun e u' q=>by
    rw[hpa]at q;obtain⟨hb',q⟩:=q;rcases q with⟨q,_⟩|⟨W',H',e1,e2,_,_,N,cap,Q,Wd',Hf',q1,q2,q3,q4,_⟩;·exact absurd hb q
    ·obtain rfl:W=W':=by omega
     obtain rfl:H=H':=by omega
     rw[<-hn];have hq:=und_places W0 (by omega) (by omega) hT hTa ⟨rfl,rfl⟩ ⟨rfl,rfl⟩ hS q1 hP q2;rw[len_sh,frK_u hT.ups hq]at q4;exact⟨N,cap,q3,q4,hb'⟩
   have F3:Hid (∀P Wd Hf,Sz L Wd Hf->PlTo L Wd Hf W H (fun _=>0) (fun _=>0) 0 P L.length->∀u,Below W0.heap.size W0 u->Calls prog 6 #[.string tb,Iq W,Iq H,.slice none 0 0] u fun e u'=>∃N cap,e=.returned (.tuple #[Sq N n cap,Iq 0,Iq 0])∧Hid (∃cc,Cv 34 u' N W H cc∧∀y x,y<H->x<W->cc y x=bk 0 2 0)∧Hid (Below u.heap.size u u')):=fun P Wd Hf hS hP u hu=>(FR tb u hu).mono fun e u' q=>by
    rw[hpb']at q;obtain⟨hb',q⟩:=q;rcases q with⟨q,_⟩|⟨W',H',e1,e2,_,_,N,cap,Q,Wd',Hf',q1,q2,q3,q4,_⟩;·exact absurd hb q
    ·obtain rfl:W=W':=by omega
     obtain rfl:H=H':=by omega
     rw[<-hn];have hq:=und_places W0 (by omega) (by omega) hT hTb ⟨rfl,rfl⟩ ⟨rfl,rfl⟩ hS q1 hP q2;rw[len_sh]at q4;exact⟨N,cap,q3,⟨_,q4,fun y x hy hx=>frK_v hW hH hq hy hx⟩,hb'⟩
   have hz':¬(4000:Int)<(tb.size:Int):=by omega
   clear FR hp hpp hT hpa hpa' hpb hpb' hTa hTb hLa hLb hta' htb' hb hn;go_enter func4,ntmps4;go_wp2_with(first
    |(go_at_call 5;(with_reducible refine Calls.mono (RT.out _) ?_);rintro e u1 ⟨rfl,HB1⟩)
    |(go_at_call 5;(with_reducible refine Calls.mono (RA.out _) ?_);rintro e u3 ⟨rfl,HB3⟩;have HU3:Hid (Below W0.heap.size W0 u3):=HU2.trans (HB3.mono HU2.size))
    |(go_at_call 6;(with_reducible refine Calls.mono (F1.out _ HB1.out) ?_);rintro e u2 ⟨N1,cap1,rfl,HV1,HB2⟩;have HU2:Hid (Below W0.heap.size W0 u2):=HB1.trans (HB2.mono HB1.size);obtain⟨P,Wd,Hf,hS,hP,hv1⟩:=HV1.out;have HVA:=qH hv1;have F2:=qH (F2 P Wd Hf hS hP);have F3:=qH (F3 P Wd Hf hS hP);clear hv1 hS hP HV1)
    |(go_at_call 6;(with_reducible refine Calls.mono (F2.out _ HU3.out) ?_);rintro e u4 ⟨N2,cap2,rfl,HVB,HB4⟩;have HU4:Hid (Below W0.heap.size W0 u4):=HU3.trans (HB4.mono HU3.size))
    |(go_at_call 6;(with_reducible refine Calls.mono (F3.out _ HU4.out) ?_);rintro e u5 ⟨N3,cap3,rfl,HVC,HB5⟩;have HU5:Hid (Below W0.heap.size W0 u5):=HU4.trans (HB5.mono HU4.size))
    |(go_at_call 8;(with_reducible refine Calls.mono (NU.out _ _) ?_);rintro e u9 ⟨rfl,h9⟩;obtain rfl:=h9.symm));have H35:Hid (Below u3.heap.size u3 u5):=HB4.trans (HB5.mono HB4.size);have H25:Hid (Below u2.heap.size u2 u5):=HB3.trans (H35.mono HB3.size);have HVA5:Hid (Cv 34 u5 N1 W H (frK W H L P L.length)):=HVA.keep (H25.block N1 HVA.lt);have HVB5:Hid (Cv 34 u5 N2 W H (frK W H L P L.length)):=HVB.keep (HB5.block N2 HVB.lt);obtain⟨cc,hvc,hcc⟩:=HVC.out;have HVC5:=qH hvc;have HCC:=qH hcc;clear hvc hcc HVC HVA HVB HB1 HB2 HB3 HB4 HB5 HU2 HU3 HU4 RT RA F1 F2 F3 NU H35 H25;generalize frK W H L P L.length=c1 at HVA5 HVB5;go_loopw[20] (fun iv wr=>∃i:Nat,i≤n∧iv=Iq (i:Int)∧Hid (Below u5.heap.size u5 wr)) (fun iv _=>n-(intOf iv).toNat);case atStart=>exact⟨0,Nat.zero_le _,rfl,Below.refl _ _⟩
   case round=>
    obtain⟨i,hi,rfl,HBr⟩:=hrel;by_cases hlt:i<n
    ·have hlt':(i:Int)<(n:Int):=by omega
     obtain⟨y,x,hy,hx,hyx⟩:∃y x,y<H∧x<W∧y*W*5+x*5=i*5:=by have h1:=Nat.div_add_mod i W;have h2:=Nat.mod_lt i (show 0<W by omega);refine⟨i/W,i %W,Nat.div_lt_of_lt_mul (by rw[HN.out];exact hlt),h2,?_⟩;rw[Nat.mul_comm W]at h1;omega
     have HA:Hid (Cv 34 wr N1 W H c1):=HVA5.keep (HBr.block N1 HVA5.lt);have HB:Hid (Cv 34 wr N2 W H c1):=HVB5.keep (HBr.block N2 HVB5.lt);have HC:Hid (Cv 34 wr N3 W H cc):=HVC5.keep (HBr.block N3 HVC5.lt);have a0:=HA.c0 hy hx;have a1:=HA.c1 hy hx;have a2:=HA.c2 hy hx;have a3:=HA.c3 hy hx;have a4:=HA.c4 hy hx;have b0:=HB.c0 hy hx;have b1:=HB.c1 hy hx;have b2:=HB.c2 hy hx;have b3:=HB.c3 hy hx;have b4:=HB.c4 hy hx;have d0:=HC.c0 hy hx;have d1:=HC.c1 hy hx;have d2:=HC.c2 hy hx;have d3:=HC.c3 hy hx;have d4:=HC.c4 hy hx;rw[HCC y x hy hx]at d0 d1 d2 d3 d4;rw[hyx]at a0 a1 a2 a3 a4 b0 b1 b2 b3 b4 d0 d1 d2 d3 d4;obtain⟨⟨tx,f,g,b,p⟩,hce⟩:=nmd (c1 y x);rw[hce]at a0 a1 a2 a3 a4 b0 b1 b2 b3 b4;unfold bk spc at d0 d1 d2 d3 d4;dsimp only at a0 a1 a2 a3 a4 b0 b1 b2 b3 b4 d0 d1 d2 d3 d4;clear hce hyx HA HB HC;go_wp2_with fail;go_quiet(fail);go_wp2;go_roundw;case rel=>exact⟨i+1,hlt,by go_num,HBr.trans ⟨rfl,rfl,rfl,Nat.le_refl _,fun _ _=>rfl⟩⟩
     case measure=>simp[intOf];omega
    ·have hlt':¬(i:Int)<(n:Int):=by omega
     go_wp2;go_ret;exact⟨rfl,HU5.trans (HBr.mono HU5.size)⟩
  ·have hgd:rightB ta W H=false∨(rightB ta W H=true∧(4000:Int)<(tb.size:Int)):=by
    by_cases q:rightP ta W H;·exact .inr ⟨rightB_yes q,by have:¬tb.size≤4000:=fun z=>ha ⟨q,z⟩;omega⟩
    ·exact .inl (rightB_no q)
   clear FR hp hpp hT hta' htb' hb hn ha;rcases hgd with hgd|⟨hgd,hz'⟩;all_goals
    rw[hgd]at RA;go_enter func4,ntmps4;go_wp2_with(first
     |(go_at_call 5;(with_reducible refine Calls.mono (RT.out _) ?_);rintro e u1 ⟨rfl,HB1⟩)
     |(go_at_call 5;(with_reducible refine Calls.mono (RA.out _) ?_);rintro e u3 ⟨rfl,HB3⟩)
     |(go_at_call 6;(with_reducible refine Calls.mono (F1.out _ HB1.out) ?_);rintro e u2 ⟨N1,cap1,rfl,HV1,HB2⟩)
     |(go_at_call 8;(with_reducible refine Calls.mono (NU.out _ _) ?_);rintro e u9 ⟨rfl,h9⟩;obtain rfl:=h9.symm));go_ret;exact⟨rfl,(HB1.trans (HB2.mono HB1.size)).trans (HB3.mono (Nat.le_trans HB1.size HB2.size))⟩
 ·rw[rightB_no hr]at RT;have F3:Hid (∀u,Below W0.heap.size W0 u->Calls prog 6 #[.string t,Iq w,Iq h,.slice none 0 0] u fun e u'=>∃k d,e=.returned (.tuple #[.slice none 0 0,Iq k,Iq d])∧(k==0)=false∧Hid (Below u.heap.size u u')):=fun u hu=>(FR t u hu).mono fun e u' q=>by
   cases hp:pTree t with
   |error x=>
    rw[hp]at q;have hx:(errC x:Int)≠0:=by have:=err_pos hp;omega
    exact⟨_,_,q.2,by simpa using hx,q.1⟩
   |ok L=>
    rw[hp]at q;obtain⟨hb',q⟩:=q;rcases q with⟨_,q⟩|⟨W',H',e1,e2,h1,h2,_⟩;·exact⟨_,_,q,rfl,hb'⟩
    ·exact absurd ⟨L,hp,by omega⟩ hr
  clear FR hta' htb';generalize rightB ta w h=gd at RA;go_enter func4,ntmps4;go_wp2_with(first
   |(go_at_call 5;(with_reducible refine Calls.mono (RT.out _) ?_);rintro e u1 ⟨rfl,HB1⟩)
   |(go_at_call 5;(with_reducible refine Calls.mono (RA.out _) ?_);rintro e u3 ⟨rfl,HB3⟩)
   |(go_at_call 6;(with_reducible refine Calls.mono (F3.out _ HB1.out) ?_);rintro e u2 ⟨k,d,rfl,hk,HB2⟩)
   |(go_at_call 8;(with_reducible refine Calls.mono (NU.out _ _) ?_);rintro e u9 ⟨rfl,h9⟩;obtain rfl:=h9.symm));go_ret;refine⟨?_,(HB1.trans (HB2.mono HB1.size)).trans (HB3.mono (Nat.le_trans HB1.size HB2.size))⟩;simp
end
end Go.Proofs.YtmbefonnkkhfgaaGreatDoor
