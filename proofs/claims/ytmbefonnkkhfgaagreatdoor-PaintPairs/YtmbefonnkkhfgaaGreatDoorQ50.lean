import Derived.Test.YtmbefonnkkhfgaaGreatDoorQ43
import Derived.Test.YtmbefonnkkhfgaaGreatDoorQ33
import Derived.Test.YtmbefonnkkhfgaaGreatDoorQ44
import Derived.Test.YtmbefonnkkhfgaaGreatDoorQ19
import Derived.Test.YtmbefonnkkhfgaaGreatDoorQ24
import Derived.Test.YtmbefonnkkhfgaaGreatDoorQ49
import Derived.Test.YtmbefonnkkhfgaaGreatDoorQ46
import Derived.Test.YtmbefonnkkhfgaaGreatDoorQ47
import Derived.Test.YtmbefonnkkhfgaaGreatDoorQ22
import Derived.Test.YtmbefonnkkhfgaaGreatDoorQ17
import Derived.Deep.RegionHeld
import Derived.Test.YtmbefonnkkhfgaaGreatDoorQ31
import Derived.Test.YtmbefonnkkhfgaaGreatDoorQ00
import Derived.BigQuiet
set_option linter.unusedVariables false
set_option maxRecDepth 100000
set_option maxHeartbeats 16000000
namespace Go.Proofs.YtmbefonnkkhfgaaGreatDoor
section
open Go.RowKit Go.Sort
theorem sz_pick(t:ByteArray):∃Wd H,∀L,pTree t=.ok L->Sz L Wd H:=by
 cases hp:pTree t with
 |error x=>exact⟨fun _=>0,fun _ _=>0,fun L q=>by cases q⟩
 |ok L=>obtain⟨Wd,H,hS⟩:=sz_ex (parse_tree (parse_of_ok hp)).nest;exact⟨Wd,H,fun L' q=>by cases q;exact hS⟩
end
section
theorem clus_one:∀(n:Nat) (R:List Int),R.length≤n->(∀r∈R,Good r)->∀c∈clus R,clus (runes c.1)=[c]∧c.1.length≤20
 |n,[],_,_,c,hc=>by rw[clus_nil]at hc;cases hc
 |0,r::R,h,_,_,_=>by simp at h
 |n+1,r::R,h,hg,c,hc=>by
  rw[clus_step (List.cons_ne_nil _ _)]at hc;rcases List.mem_cons.1 hc with rfl|hc
  ·have hr:=cRunes_good (r::R) hg;have h1:=clus_app (List.cons_ne_nil r R) [] (fun x hx=>by cases hx);rw[List.append_nil,clus_nil]at h1;refine⟨?_,?_⟩
   ·have e:runes (cText (r::R))=cRunes (r::R):=by rw[cText_enc];exact runes_enc _ hr
    show clus (runes (cText (r::R)))=_;rw[e];exact h1
   ·show(cText (r::R)).length≤20;have h2:=enc_le (cRunes (r::R));have h3:=cRunes_length (r::R);rw[cText_enc];omega
  ·have h4:=cNum_pos (List.cons_ne_nil r R);exact clus_one n _ (by rw[List.length_drop];simp at h⊢;omega) (fun x hx=>hg x (List.mem_of_mem_drop hx)) c hc
def GdC(e:Ce):Prop:=e.p=2∨clus (runes e.t.data.toList)=[(e.t.data.toList,1+e.p)]∧e.t.size≤20
def GdT(t:ByteArray)(wd:Int):Prop:=wd=1∨wd=2->clus (runes t.data.toList)=[(t.data.toList,wd)]∧t.size≤20
theorem gd_spc:clus (runes spc.data.toList)=[(spc.data.toList,1+0)]∧spc.size≤20:=by decide+kernel
theorem gd_bk(f g b:Int):GdC (bk f g b):=.inr gd_spc
theorem gd_bl(c:Ce):GdC (bl c):=.inr gd_spc
theorem gd_clus{s:List UInt8}{c:List UInt8×Int}(hc:c∈clus (runes s)):GdT ⟨c.1.toArray⟩ c.2:=fun _=>by have:=clus_one _ _ (Nat.le_refl _) (runes_good s) c hc;exact⟨by simpa using this.1,by simpa[ByteArray.size]using this.2⟩
def GdA(W H:Nat)(c:Nat->Nat->Ce):Prop:=∀y x,y<H->x<W->GdC (c y x)
theorem GdA.fill{W H l r t d:Nat}{c:Nat->Nat->Ce}{x:Nat->Ce}(h:GdA W H c)(hp:PAll W H c)(hr:r≤W)(hx:∀j,GdC (x j)):GdA W H (fill c l r t d x):=fun y j hy hj=>by
 by_cases ho:t≤y∧y<d∧l≤j∧j<r
 ·have:Go.Proofs.YtmbefonnkkhfgaaGreatDoor.fill c l r t d x y j=x j:=by unfold Go.Proofs.YtmbefonnkkhfgaaGreatDoor.fill;rw[if_pos ⟨ho.1,ho.2.1⟩,span_in ho.2.2]
  rw[this];exact hx j
 ·rcases fill_out hp hr hy hj ho with e|⟨e,_⟩;·rw[e];exact h y j hy hj
  ·rw[e];exact gd_bl _
theorem GdA.put{W H:Nat}{c:Nat->Nat->Ce}(h:GdA W H c)(hp:PAll W H c)(hW:1≤W∧W≤400)(hH:1≤H∧H≤400)(x y:Int)(txt:ByteArray)(wd f g b cx cy ca cb:Int)(ht:GdT txt wd):GdA W H (putC W H c x y txt wd f g b cx cy ca cb):=by
 have SF:=seen_facts (W:=W) (H:=H) (by omega) (by omega) x y wd 1 cx cy ca cb;unfold putC putQ;split
 ·rename_i hw;have hg:=ht hw;have h1:=SF.lu;have h2:=SF.l0;refine h.fill hp (by omega) fun j=>?_;unfold putX;split;·exact gd_bk _ _ _
  ·unfold gly;split
   ·rename_i e2;split;·right;rw[e2]at hg;exact hg
    ·left;rfl
   ·right;have:wd=1:=by omega
    rw[this]at hg;exact hg
 ·exact h
theorem GdA.fil{W H:Nat}{c:Nat->Nat->Ce}(h:GdA W H c)(hp:PAll W H c)(hW:1≤W∧W≤400)(hH:1≤H∧H≤400)(x y a b f g bd cx cy ca cb:Int):GdA W H (filC W H c x y a b f g bd cx cy ca cb):=by have SF:=seen_facts (W:=W) (H:=H) (by omega) (by omega) x y a b cx cy ca cb;unfold filC;exact h.fill hp (by have:=SF.lu;have:=SF.l0;omega) fun _=>gd_bk _ _ _
end
section
open Go.RowKit Go.Sort Go.Proofs.Tryz
def LyOut(U U':World)(w h:Int)(idf off:Nat->Int)(sn:Nat)(r:Except (Option (Nat×Nat)) (List Nd))(e:Ending):Prop:=Below U.heap.size U U'∧match r with
 |.error x=>e=.returned (.tuple #[.slice none 0 0,Iq (errC x:Int),Iq (errP x:Int)])
 |.ok L=>(¬(1≤w∧w≤400∧1≤h∧h≤400)∧e=.returned (.tuple #[.slice none 0 0,Iq 6,Iq 0]))∨((1≤w∧w≤400∧1≤h∧h≤400)∧∃pb P Wd H,Sz L Wd H∧e=.returned (.tuple #[Sq pb L.length L.length,Iq 0,Iq 0])∧U'.rowIs pb 63 (L.length*10) (pcF P)∧PlTo L Wd H w h idf off sn P L.length∧U.heap.size≤pb)
def LyAt(U U':World)(w h:Int)(idf off:Nat->Int)(sn:Nat)(Wd:Nat->Int)(H:Nat->Int->Int)(r:Except (Option (Nat×Nat)) (List Nd))(e:Ending):Prop:=Below U.heap.size U U'∧match r with
 |.error x=>e=.returned (.tuple #[.slice none 0 0,Iq (errC x:Int),Iq (errP x:Int)])
 |.ok L=>(¬(1≤w∧w≤400∧1≤h∧h≤400)∧e=.returned (.tuple #[.slice none 0 0,Iq 6,Iq 0]))∨((1≤w∧w≤400∧1≤h∧h≤400)∧∃pb P,e=.returned (.tuple #[Sq pb L.length L.length,Iq 0,Iq 0])∧U'.rowIs pb 63 (L.length*10) (pcF P)∧PlTo L Wd H w h idf off sn P L.length∧U.heap.size≤pb)
theorem layout_at(t:ByteArray)(w h:Int)(sp:Option Addr)(sn sc:Nat)(idf off:Nat->Int)(E:Nat->Addr)(U:World)(hG:Glo U E)(hA:Apart U E)(hE:ErT U)(ht:TabAt U)(hsc:Scr U sp sn idf off)(hsn:sn≤4611686018427387904)(hsp:∀a:Addr,sp=some a->a.block<U.heap.size)(Wd:Nat->Int)(H:Nat->Int->Int)(hSz:∀L,pTree t=.ok L->Sz L Wd H):
 Calls prog 12 #[.string t,Iq w,Iq h,.slice sp sn sc] U fun e U'=>LyAt U U' w h idf off sn Wd H (pTree t) e:=by
 have HSz:Hid (∀L,pTree t=.ok L->Sz L Wd H):=hSz;clear hSz;have TP:Hid (Calls prog 13 #[.string t] U fun e w'=>TpOut U w' e (pTree t)):=tparse_any t E U hG hA hE;have SD:Hid (∀n u,Calls prog 23 #[Iq n] u fun e w'=>e=.returned (.bool (decide (1≤n∧n≤400)))∧w'=u):=isSide_any;have HT:Hid (TabAt U∧Scr U sp sn idf off):=⟨ht,hsc⟩;clear hG hA hE ht hsc;go_enter func12,ntmps12;go_wp2_with fail;refine TP.mono ?_;rintro e U1 ⟨hb1,hr⟩;have HB1:Hid (Below U.heap.size U U1):=hb1;clear hb1 TP;cases hp:pTree t with
 |error x=>
  rw[hp]at hr;subst hr;have hx:(errC x:Int)≠0:=by have:=err_pos hp;omega
  have hx2:((errC x:Int)!=0)=true:=by simpa using hx
  have HPP:Hid (pTree t=.error x):=hp;obtain⟨c,hc⟩:∃z:Int,(errC x:Int)=z:=⟨_,rfl⟩;have HCE:Hid ((errC x:Int)=c):=hc;rw[hc]at hx hx2⊢;clear hp hc;go_wp2;refine bodyPost_ret (results_tmp3 rfl _ _ _) rfl ?_;rw[HPP.out];exact⟨HB1,by show _=_;rw[HCE.out];rfl⟩
 |ok L=>
  rw[hp]at hr;obtain⟨nv,KV,rfl,hn⟩:=hr;have hT:Tree t L:=parse_tree (parse_of_ok hp);have hS:=HSz L hp;have hpos:=hT.pos;obtain⟨g,cap,rfl⟩:∃g cap,nv=Sq g L.length cap:=by
   obtain⟨xs,hx⟩:=hn.nr.row;rcases own_form hx with⟨_,h0⟩|⟨g,cap,e,_⟩;·omega
   ·exact⟨g,cap,e⟩
  have HN:Hid (PN U1 U.heap.size (Sq g L.length cap) L KV):=hn;have HPP:Hid (pTree t=.ok L):=hp;clear hn hp;by_cases hw:1≤w∧w≤400
  ·by_cases hh:1≤h∧h≤400
   ·have S1:Hid (∀u,Calls prog 23 #[Iq w] u fun e w'=>e=.returned (.bool true)∧w'=u):=fun u=>by have:=SD w u;rw[decide_eq_true hw]at this;exact this
    have S2:Hid (∀u,Calls prog 23 #[Iq h] u fun e w'=>e=.returned (.bool true)∧w'=u):=fun u=>by have:=SD h u;rw[decide_eq_true hh]at this;exact this
    have NM:Hid (Calls prog 24 #[Sq g L.length cap] U1 fun e u'=>∃mb r wb,e=.returned (Pq mb)∧Hid (Below U1.heap.size U1 u'∧Hs u' mb r g cap wb L KV Wd H 0∧U1.heap.size≤r)):=by refine(newMeasure_any g cap hT hS U1 _ HN (HT.1.below HB1)).mono ?_;rintro e u' ⟨mb,r,wb,h1,h2,h3,h4⟩;exact⟨mb,r,wb,h1,h2,h3,h4⟩
    have PL:Hid (∀u mb r wb,Below U1.heap.size U1 u->Hs u mb r g cap wb L KV Wd H 0->Calls prog 25 #[Pq mb,Iq w,Iq h,.slice sp sn sc] u fun e u'=>∃pb,e=.returned (Sq pb L.length L.length)∧Hid (∃P,u'.rowIs pb 63 (L.length*10) (pcF P)∧PlTo L Wd H w h idf off sn P L.length∧u.grownBy u' (some r)∧u.heap.size≤pb)):=fun u mb r wb hu hHs=>by have hbu:=HB1.trans (hu.mono HB1.size);refine(places_any mb r g cap wb hT hS w h sp sn sc idf off u hHs hw hh (HT.2.below hbu) hsn (fun a e=>Nat.lt_of_lt_of_le (hsp a e) hbu.size)).mono ?_;rintro e u' ⟨pb,P,h1,h2,h3,h4,h5⟩;exact⟨pb,h1,P,h2,h3,h4,h5⟩
    clear SD HT;go_wp2_with(first|(go_at_call 23;(with_reducible refine Calls.mono (S1.out _) ?_);rintro e u5 ⟨rfl,h5⟩;obtain rfl:=h5.symm)|(go_at_call 23;(with_reducible refine Calls.mono (S2.out _) ?_);rintro e u5 ⟨rfl,h5⟩;obtain rfl:=h5.symm)|(go_at_call 24;refine Calls.mono NM.out ?_;rintro e u6 ⟨mb,r,wb,rfl,HH⟩)|(go_at_call 25;refine Calls.mono (PL.out _ _ _ _ HH.out.1 HH.out.2.1) ?_;rintro e u7 ⟨pb,rfl,HZ⟩));all_goals refine bodyPost_ret (results_tmp3 rfl _ _ _) rfl ?_;rw[HPP.out];obtain⟨P,z1,z2,z3,z4⟩:=HZ.out;obtain⟨q1,q2,q3⟩:=HH.out;have hb1:=HB1.out;have hb6:=hb1.trans (q1.mono hb1.size);have hle:=hb1.size;have hle6:=hb6.size;refine⟨hb6.grown z3 hle6 (fun k hk=>by injection hk with hk;omega),?_⟩;exact .inr ⟨⟨hw.1,hw.2,hh.1,hh.2⟩,pb,P,rfl,z1,z2,by omega⟩
   ·have S1:Hid (∀u,Calls prog 23 #[Iq w] u fun e w'=>e=.returned (.bool true)∧w'=u):=fun u=>by have:=SD w u;rw[decide_eq_true hw]at this;exact this
    have S2:Hid (∀u,Calls prog 23 #[Iq h] u fun e w'=>e=.returned (.bool false)∧w'=u):=fun u=>by have:=SD h u;rw[decide_eq_false hh]at this;exact this
    clear SD HT HN;go_wp2_with(first|(go_at_call 23;(with_reducible refine Calls.mono (S1.out _) ?_);rintro e u5 ⟨rfl,h5⟩;obtain rfl:=h5.symm)|(go_at_call 23;(with_reducible refine Calls.mono (S2.out _) ?_);rintro e u5 ⟨rfl,h5⟩;obtain rfl:=h5.symm));all_goals refine bodyPost_ret (results_tmp3 rfl _ _ _) rfl ?_;rw[HPP.out];exact⟨HB1,.inl ⟨fun q=>hh ⟨q.2.2.1,q.2.2.2⟩,rfl⟩⟩
  ·have S1:Hid (∀u,Calls prog 23 #[Iq w] u fun e w'=>e=.returned (.bool false)∧w'=u):=fun u=>by have:=SD w u;rw[decide_eq_false hw]at this;exact this
   clear SD HT HN;go_wp2_with(go_at_call 23;refine Calls.mono (S1 _) ?_;rintro e u5 ⟨rfl,h5⟩;obtain rfl:=h5.symm);all_goals refine bodyPost_ret (results_tmp3 rfl _ _ _) rfl ?_;rw[HPP.out];exact⟨HB1,.inl ⟨fun q=>hw ⟨q.1,q.2.1⟩,rfl⟩⟩
theorem layout_any(t:ByteArray)(w h:Int)(sp:Option Addr)(sn sc:Nat)(idf off:Nat->Int)(E:Nat->Addr)(U:World)(hG:Glo U E)(hA:Apart U E)(hE:ErT U)(ht:TabAt U)(hsc:Scr U sp sn idf off)(hsn:sn≤4611686018427387904)(hsp:∀a:Addr,sp=some a->a.block<U.heap.size):
 Calls prog 12 #[.string t,Iq w,Iq h,.slice sp sn sc] U fun e U'=>LyOut U U' w h idf off sn (pTree t) e:=by
 obtain⟨Wd,H,hS⟩:=sz_pick t;refine(layout_at t w h sp sn sc idf off E U hG hA hE ht hsc hsn hsp Wd H hS).mono ?_;rintro e U' ⟨hb,q⟩;refine⟨hb,?_⟩;cases hp:pTree t with
 |error x=>rw[hp]at q;exact q
 |ok L=>
  rw[hp]at q;rcases q with q|⟨q1,pb,P,q2,q3,q4,q5⟩;·exact .inl q
  ·exact .inr ⟨q1,pb,P,Wd,H,hS L hp,q2,q3,q4,q5⟩
end
section
open Go.RowKit Go.Sort Go.Proofs.Tryz
def frK(W H:Nat)(L:List Nd)(P:Nat->Nat->Int):Nat->Nat->Nat->Ce
 |0=>fun _ _=>bk 0 0 0
 |k+1=>pnF W H (sty L k).1 (sty L k).2.1 (sty L k).2.2 (P k 4) (P k 5) (P k 6) (P k 7) (nth L k).kind (atN (nth L k) 6) (atN (nth L k) 7) (atN (nth L k) 8) (atN (nth L k) 10) (nth L k).text (P k 0) (P k 1) (P k 2) (P k 3) (frK W H L P k)
theorem frK_keep{W H:Nat}{Q:(Nat->Nat->Ce)->Prop}{L:List Nd}{P:Nat->Nat->Int}(h0:Q (fun _ _=>bk 0 0 0))(hf:∀c x y w hh f g bd cx cy ca cb,Q c->Q (filC W H c x y w hh f g bd cx cy ca cb))(hs:∀f g bd cx cy ca cb x y s c,Q c->Q (wrL W H f g bd cx cy ca cb x y s c)):∀k,Q (frK W H L P k)
 |0=>h0
 |k+1=>pnF_keep (fun c hc=>hf c _ _ _ _ _ _ _ _ _ _ _ hc) (fun x y s c hc=>hs _ _ _ _ _ _ _ x y s c hc) (frK_keep h0 hf hs k)
theorem PAll.blank(W H:Nat):PAll W H (fun _ _=>bk 0 0 0):=fun y hy=>⟨fun i hi=>.inl rfl,fun i hi h=>(by cases h),fun i hi h=>(by cases h)⟩
theorem PAll.frK{W H:Nat}(hW:1≤W∧W≤400)(hH:1≤H∧H≤400)(L:List Nd)(P:Nat->Nat->Int)(k:Nat):PAll W H (frK W H L P k):=
 frK_keep (Q:=PAll W H) (PAll.blank W H) (fun c _ _ _ _ _ _ _ _ _ _ _ hc=>hc.filX hW hH _ _ _ _ _ _ _ _ _ _ _) (fun _ _ _ _ _ _ _ _ _ _ c hc=>hc.wrL hW hH _ _ _ _ _ _ _ _ _ _) k
def FrOut(U U':World)(w h:Int)(idf off:Nat->Int)(sn:Nat)(r:Except (Option (Nat×Nat)) (List Nd))(e:Ending):Prop:=Below U.heap.size U U'∧match r with
 |.error x=>e=.returned (.tuple #[.slice none 0 0,Iq (errC x:Int),Iq (errP x:Int)])
 |.ok L=>(¬(1≤w∧w≤400∧1≤h∧h≤400)∧e=.returned (.tuple #[.slice none 0 0,Iq 6,Iq 0]))∨∃W H:Nat,w=W∧h=H∧(1≤W∧W≤400)∧(1≤H∧H≤400)∧∃N cap P Wd Hf,Sz L Wd Hf∧PlTo L Wd Hf w h idf off sn P L.length∧e=.returned (.tuple #[Sq N (W*H) cap,Iq 0,Iq 0])∧Cv 34 U' N W H (frK W H L P L.length)∧U.heap.size≤N
def R8(u:World)(B K:Nat)(f0 f1 f2 c0 c1 c2 c3:Int):Prop:=u.heap[B]?=some (.cells #[Pq K,Iq f0,Iq f1,Iq f2,Iq c0,Iq c1,Iq c2,Iq c3] 58 (0,0))
theorem Chm.drewn{M:Nat}{W W':World}(h:Chm M W W'):Chm M W W'.drew:=⟨h.os,h.tape,h.output,h.size,h.block⟩
section
variable{u:World} {B K:Nat} {f0 f1 f2 c0 c1 c2 c3:Int}
theorem R8.s1(h:R8 u B K f0 f1 f2 c0 c1 c2 c3)(v:Int):R8 (u.setCell ⟨B,1,none⟩ (.int .i64 v)) B K v f1 f2 c0 c1 c2 c3:=heap_setCell_same _ B 1 _ _ _ h
theorem R8.s2(h:R8 u B K f0 f1 f2 c0 c1 c2 c3)(v:Int):R8 (u.setCell ⟨B,2,none⟩ (.int .i64 v)) B K f0 v f2 c0 c1 c2 c3:=heap_setCell_same _ B 2 _ _ _ h
theorem R8.s3(h:R8 u B K f0 f1 f2 c0 c1 c2 c3)(v:Int):R8 (u.setCell ⟨B,3,none⟩ (.int .i64 v)) B K f0 f1 v c0 c1 c2 c3:=heap_setCell_same _ B 3 _ _ _ h
theorem R8.s4(h:R8 u B K f0 f1 f2 c0 c1 c2 c3)(v:Int):R8 (u.setCell ⟨B,4,none⟩ (.int .i64 v)) B K f0 f1 f2 v c1 c2 c3:=heap_setCell_same _ B 4 _ _ _ h
theorem R8.s5(h:R8 u B K f0 f1 f2 c0 c1 c2 c3)(v:Int):R8 (u.setCell ⟨B,5,none⟩ (.int .i64 v)) B K f0 f1 f2 c0 v c2 c3:=heap_setCell_same _ B 5 _ _ _ h
theorem R8.s6(h:R8 u B K f0 f1 f2 c0 c1 c2 c3)(v:Int):R8 (u.setCell ⟨B,6,none⟩ (.int .i64 v)) B K f0 f1 f2 c0 c1 v c3:=heap_setCell_same _ B 6 _ _ _ h
theorem R8.s7(h:R8 u B K f0 f1 f2 c0 c1 c2 c3)(v:Int):R8 (u.setCell ⟨B,7,none⟩ (.int .i64 v)) B K f0 f1 f2 c0 c1 c2 v:=heap_setCell_same _ B 7 _ _ _ h
theorem R8.dr(h:R8 u B K f0 f1 f2 c0 c1 c2 c3):R8 u.drew B K f0 f1 f2 c0 c1 c2 c3:=h
theorem R8.seven(h:R8 u B K f0 f1 f2 c0 c1 c2 c3)(s0 s1 s2 s3 s4 s5 s6:Int):R8 (((((((u.setCell ⟨B,1,none⟩ (.int .i64 s0)).setCell ⟨B,2,none⟩ (.int .i64 s1)).setCell ⟨B,3,none⟩ (.int .i64 s2)).setCell ⟨B,4,none⟩ (.int .i64 s3)).setCell ⟨B,5,none⟩ (.int .i64 s4)).setCell ⟨B,6,none⟩ (.int .i64 s5)).setCell ⟨B,7,none⟩ (.int .i64 s6)).drew B K s0 s1 s2 s3 s4 s5 s6:=
 (((((((h.s1 s0).s2 s1).s3 s2).s4 s3).s5 s4).s6 s5).s7 s6).dr
end
theorem pframe_any(t:ByteArray)(w h:Int)(sp:Option Addr)(sn sc:Nat)(idf off:Nat->Int)(E:Nat->Addr)(U:World)(hG:Glo U E)(hA:Apart U E)(hE:ErT U)(ht:TabAt U)(hsc:Scr U sp sn idf off)(hsn:sn≤4611686018427387904)(hsp:∀a:Addr,sp=some a->a.block<U.heap.size):
 Calls prog 6 #[.string t,Iq w,Iq h,.slice sp sn sc] U fun e U'=>FrOut U U' w h idf off sn (pTree t) e:=by
 have LY:Hid (Calls prog 12 #[.string t,Iq w,Iq h,.slice sp sn sc] U fun e U'=>LyOut U U' w h idf off sn (pTree t) e):=layout_any t w h sp sn sc idf off E U hG hA hE ht hsc hsn hsp;cases hp:pTree t with
 |error x=>
  rw[hp]at LY;have hx:(errC x:Int)≠0:=by have:=err_pos hp;omega
  obtain⟨c,hc⟩:∃z:Int,(errC x:Int)=z:=⟨_,rfl⟩;obtain⟨d,hd⟩:∃z:Int,(errP x:Int)=z:=⟨_,rfl⟩;have LY2:Hid (Calls prog 12 #[.string t,Iq w,Iq h,.slice sp sn sc] U fun e u'=>e=.returned (.tuple #[.slice none 0 0,Iq c,Iq d])∧Hid (Below U.heap.size U u')):=LY.mono fun e w' q=>⟨by have:=q.2;dsimp only at this;rw[hc,hd]at this;exact this,q.1⟩;have hcx:(c==0)=false:=by rw[<-hc];simpa using hx
  have HC:=qH hc;have HD:=qH hd;clear LY hc hd hx;go_enter func6,ntmps6;go_wp2_with(go_at_call 12;refine LY2.mono ?_;rintro e U1 ⟨rfl,HB1⟩);refine bodyPost_ret (results_tmp3 rfl _ _ _) rfl ?_;refine⟨HB1,?_⟩;dsimp only;rw[HC.out,HD.out];rfl
 |ok L=>
  rw[hp]at LY;by_cases hr:1≤w∧w≤400∧1≤h∧h≤400;case neg=>
   have LY2:Hid (Calls prog 12 #[.string t,Iq w,Iq h,.slice sp sn sc] U fun e u'=>e=.returned (.tuple #[.slice none 0 0,Iq 6,Iq 0])∧Hid (Below U.heap.size U u')):=LY.mono fun e w' q=>by
    obtain⟨hb,q⟩:=q;rcases q with⟨_,q⟩|⟨q,_⟩;·exact⟨q,hb⟩
    ·exact absurd q hr
   clear LY;go_enter func6,ntmps6;go_wp2_with(go_at_call 12;refine LY2.mono ?_;rintro e U1 ⟨rfl,HB1⟩);refine bodyPost_ret (results_tmp3 rfl _ _ _) rfl ?_;exact⟨HB1,.inl ⟨hr,rfl⟩⟩
  have hT:Tree t L:=parse_tree (parse_of_ok hp);have hcnt:=hT.vl.cnt;have hpos:=hT.pos;obtain⟨W,rfl⟩:∃W:Nat,w=(W:Int):=⟨w.toNat,by omega⟩;obtain⟨H,rfl⟩:∃H:Nat,h=(H:Int):=⟨h.toNat,by omega⟩;have hW:1≤W∧W≤400:=by omega
  have hH:1≤H∧H≤400:=by omega
  have HT:=qH hT;have LY2:Hid (Calls prog 12 #[.string t,Iq W,Iq H,.slice sp sn sc] U fun e u'=>∃pb,e=.returned (.tuple #[Sq pb L.length L.length,Iq 0,Iq 0])∧Hid (Below U.heap.size U u')∧∃P Wd Hf,Hid (Sz L Wd Hf∧PlTo L Wd Hf W H idf off sn P L.length)∧Hid (u'.rowIs pb 63 (L.length*10) (pcF P))):=LY.mono fun e u' q=>by
   obtain⟨hb,q⟩:=q;rcases q with⟨q,_⟩|⟨_,pb,P,Wd,Hf,q1,q2,q3,q4,_⟩;·exact absurd hr q
   ·exact⟨pb,q2,hb,P,Wd,Hf,⟨q1,q4⟩,q3⟩
  have TP2:Hid (∀u,Below U.heap.size U u->Calls prog 13 #[.string t] u fun e w'=>∃g cap KV,e=.returned (.tuple #[Sq g L.length cap,Iq 0,Iq 0])∧Hid (NdV w' w'.heap.size g L KV)∧Hid (u.heap.size≤g)∧Hid (Below u.heap.size u w')):=fun u hu=>by
   have:=tparse_any t E u (hG.cells hu) (hA.below hu) (hE.below hu);rw[hp]at this;refine this.mono fun e w' q=>?_;obtain⟨hb,nv,KV,rfl,hn⟩:=q;obtain⟨g,cap,rfl,hug⟩:∃g cap,nv=Sq g L.length cap∧u.heap.size≤g:=by
    obtain⟨xs,hx⟩:=hn.nr.row;rcases own_form hx with⟨_,h0⟩|⟨g,cap,e,h1,_⟩;·omega
    ·exact⟨g,cap,e,h1⟩
   exact⟨g,cap,KV,rfl,hn.ndv (Nat.le_refl _),hug,hb⟩
  have ST:Hid (∀u r g cap KV,NdV u r g L KV->Calls prog 15 #[Sq g L.length cap] u fun e u'=>∃sb,e=.returned (Sq sb L.length L.length)∧Hid (WRow u' sb 0 L.length (fun j=>(sty L j).1) (fun j=>(sty L j).2.1) (fun j=>(sty L j).2.2))∧Hid (u.heap.size≤sb)∧Hid (Below u.heap.size u u')):=fun u r g cap KV hv=>stylesOf_any HT.gr.upl hcnt u r g cap hv;have NW:Hid (∀u,Calls prog 14 #[Iq W,Iq H] u fun e u'=>∃K M,e=.returned (.tuple #[Pq K,Iq 0])∧Hid (CS 89 34 u' K M (W*H) W H (fun _ _=>bk 0 0 0))∧Hid (u.heap.size≤K∧u.heap.size≤M)∧Hid (Below u.heap.size u u')):=fun u=>(new_ok W H u hW hH).mono fun e u' ⟨K,M,h1,h2,h3,h4,h5⟩=>⟨K,M,h1,h2,⟨h3,h4⟩,h5⟩;have HTB:=qH ht;clear LY hp hG hA hE hsc hsp ht hT;go_enter func6,ntmps6;go_wp2_with(first
   |(go_at_call 12;refine LY2.mono ?_;rintro e u1 ⟨pb,rfl,HB1,P,Wd,Hf,HPL,HPR⟩)
   |(go_at_call 13;refine Calls.mono (TP2 _ HB1) ?_;rintro e u2 ⟨g,cap,KV,rfl,HN2,HG2,HB2⟩)
   |(go_at_call 14;refine Calls.mono (NW _) ?_;rintro e u3 ⟨K,M,rfl,HC3,HK3,HB3⟩;have HN3:Hid (NdV u3 u2.heap.size g L KV):=HN2.grown (grown_of_below HB3))
   |(go_at_call 15;refine Calls.mono (ST _ _ _ _ _ HN3) ?_;rintro e u4 ⟨sb,rfl,HW4,HS4,HB4⟩)
   |fail);obtain⟨B,hB⟩:=nmd u4.heap.size;obtain⟨u5,hu5⟩:=nmd (u4.alloc (.cells #[Pq K,Iq 0,Iq 0,Iq 0,Iq 0,Iq 0,Iq 0,Iq 0] 58));have HR5:Hid (R8 u5 B K 0 0 0 0 0 0 0):=by rw[<-hu5,<-hB];exact heap_alloc_new _ _
  have HG5:Hid (Gr u4 u5):=by rw[<-hu5];exact(Gr.refl u4).alloc _
  have h12:=HB2.size;have h23:=HB3.size;have h34:=HB4.size;have h01:=HB1.size;have HU2:Hid (Below U.heap.size U u2):=HB1.trans (HB2.mono h01);have HU3:Hid (Below U.heap.size U u3):=HU2.trans (HB3.mono (by omega));have HU4:Hid (Below U.heap.size U u4):=HU3.trans (HB4.mono (by omega));have HU5:Hid (Below U.heap.size U u5):=HU4.trans (HG5.below.mono (by omega));have hKl:K<B:=by rw[<-hB];exact Nat.lt_of_lt_of_le HC3.klt h34
  have hMl:M<B:=by rw[<-hB];exact Nat.lt_of_lt_of_le HC3.cv.lt h34
  have hUB:U.heap.size≤B:=by rw[<-hB];omega
  have hUM:U.heap.size≤M:=by have:=HK3.out.2;omega
  have H35:Hid (Below u3.heap.size u3 u5):=HB4.trans (HG5.below.mono h34);have HC5:Hid (CS 89 34 u5 K M (W*H) W H (fun _ _=>bk 0 0 0)):=⟨(H35.block K HC3.klt).trans HC3.kb,HC3.cv.keep (H35.block M HC3.cv.lt),HC3.ne,HC3.hc⟩;have HN5:Hid (NdV u5 u2.heap.size g L KV):=HN3.grown (grown_of_below H35);have hgl:g<B:=by rw[<-hB];have:=HN3.gl;omega
  have hgM:g≠M:=by have:=HN2.gl;have:=HK3.out.2;omega
  have HW5:=qH<|HW4.below HG5.below;have hsl:sb<B:=by rw[<-hB];exact HW4.1
  have hsM:sb≠M:=by have:=HS4.out;have:=HC3.cv.lt;omega
  have HP5:Hid (u5.rowIs pb 63 (L.length*10) (pcF P)):=rowIs_below HPR ((HB2.trans (HB3.mono h12)).trans (H35.mono (by omega)));have hpl:pb<B:=by rw[<-hB];have:=HPR.lt;omega
  have hpM:pb≠M:=by have:=HPR.lt;have:=HK3.out.2;omega
  have H5:Hid (u5.heap.size=B+1):=by show _=_;rw[<-hu5,World.size_alloc,hB]
  rw[hu5,hB];obtain⟨n,hn⟩:=nmd L.length;have HLN:=qH hn;have hn100:n≤100:=by omega
  rw[hn];clear hn;clear HB1 HB2 HB3 HB4 HN2 HN3 HC3 HK3 HW4 HS4 HPR HG5 HU2 HU3 HU4 H35 hu5 hB LY2 TP2 ST NW HG2;go_loopw[54] (fun iv wr=>∃k:Nat,k≤n∧iv=Iq (k:Int)∧Hid (Cv 34 wr M W H (frK W H L P k))∧Hid (Below U.heap.size U wr)∧Hid (∀b,b<B->b≠M->wr.heap[b]?=u5.heap[b]?)∧Hid (B<wr.heap.size)∧∃f0 f1 f2 c0 c1 c2 c3,Hid (R8 wr B K f0 f1 f2 c0 c1 c2 c3)) (fun iv _=>n-(intOf iv).toNat);case atStart=>exact⟨0,Nat.zero_le _,rfl,HC5.cv,HU5,fun b _ _=>rfl,by show _<_;rw[H5.out];omega,_,_,_,_,_,_,_,HR5⟩
  case round=>
   obtain⟨k,hk,rfl,HV,HU,HKp,HBl,f0,f1,f2,c0,c1,c2,c3,HR⟩:=hrel;by_cases hlt:k<n
   ·have hlt':(k:Int)<(n:Int):=by omega
    have hkl:k<L.length:=by have:=HLN.out;omega
    have HND:Hid (∀(t:Nat) v,(pnCells (nth L k) (KV k))[t]?=some v->wr.cell? ⟨g,k*16+t,none⟩=some v):=fun t v hv=>(World.cell?_of_block (a:=⟨g,k*16+t,none⟩) (HKp g hgl hgM)).trans (HN5.nd k hkl t v hv);rw[pn_list (HN5.len k hkl)]at HND;obtain⟨pk,ck,hkv,_⟩:=HN5.kid k hkl;have HST:Hid (wr.cell? ⟨sb,k*3,none⟩=some (Iq (sty L k).1)∧wr.cell? ⟨sb,k*3+1,none⟩=some (Iq (sty L k).2.1)∧wr.cell? ⟨sb,k*3+2,none⟩=some (Iq (sty L k).2.2)):=by have q:=HW5.2 k hkl;rw[Nat.zero_add]at q;have e:=fun o=>World.cell?_of_block (a:=⟨sb,o,none⟩) (HKp sb hsl hsM);exact⟨(e _).trans q.1,(e _).trans q.2.1,(e _).trans q.2.2⟩
    have HPC:Hid (∀t,t<10->wr.cell? ⟨pb,k*10+t,none⟩=some (Iq (P k t))):=fun t ht=>(World.cell?_of_block (a:=⟨pb,k*10+t,none⟩) (HKp pb hpl hpM)).trans (pc_cell HP5 hkl ht);have hbd:=HPL.2.bd k hkl;have hon:=HPL.2.onScr HT (by omega) (by omega) (k+1) k (by omega) hkl;have htl:=HT.vl.tl k hkl;have hsz:=HT.sz;have HFK:Hid (frK W H L P (k+1)=pnF W H (sty L k).1 (sty L k).2.1 (sty L k).2.2 (P k 4) (P k 5) (P k 6) (P k 7) (nth L k).kind (atN (nth L k) 6) (atN (nth L k) 7) (atN (nth L k) 8) (atN (nth L k) 10) (nth L k).text (P k 0) (P k 1) (P k 2) (P k 3) (frK W H L P k)):=rfl;rw[hkv]at HND;have y0:wr.cell? ⟨pb,k*10,none⟩=some (Iq (P k 0)):=HPC 0 (by omega);have y1:wr.cell? ⟨pb,k*10+1,none⟩=some (Iq (P k 1)):=HPC 1 (by omega);have y2:wr.cell? ⟨pb,k*10+2,none⟩=some (Iq (P k 2)):=HPC 2 (by omega);have y3:wr.cell? ⟨pb,k*10+3,none⟩=some (Iq (P k 3)):=HPC 3 (by omega);have y4:wr.cell? ⟨pb,k*10+4,none⟩=some (Iq (P k 4)):=HPC 4 (by omega);have y5:wr.cell? ⟨pb,k*10+5,none⟩=some (Iq (P k 5)):=HPC 5 (by omega);have y6:wr.cell? ⟨pb,k*10+6,none⟩=some (Iq (P k 6)):=HPC 6 (by omega);have y7:wr.cell? ⟨pb,k*10+7,none⟩=some (Iq (P k 7)):=HPC 7 (by omega);obtain⟨st0,st1,st2⟩:=HST.out;unfold OnScr at hon;generalize P k 0=p0 at y0 HFK hbd;generalize P k 1=p1 at y1 HFK hbd;generalize P k 2=p2 at y2 HFK hbd;generalize P k 3=p3 at y3 HFK hbd;generalize P k 4=p4 at y4 HFK hon;generalize P k 5=p5 at y5 HFK hon;generalize P k 6=p6 at y6 HFK hon;generalize P k 7=p7 at y7 HFK hon;generalize(sty L k).1=s0 at st0 HFK;generalize(sty L k).2.1=s1 at st1 HFK;generalize(sty L k).2.2=s2 at st2 HFK;generalize((nth L k).kind:Int)=kd at HND HFK;generalize atN (nth L k) 0=a0 at HND;generalize atN (nth L k) 1=a1 at HND;generalize atN (nth L k) 2=a2 at HND;generalize atN (nth L k) 3=a3 at HND;generalize atN (nth L k) 4=a4 at HND;generalize atN (nth L k) 5=a5 at HND;generalize atN (nth L k) 6=a6 at HND HFK;generalize atN (nth L k) 7=a7 at HND HFK;generalize atN (nth L k) 8=a8 at HND HFK;generalize atN (nth L k) 9=a9 at HND;generalize atN (nth L k) 10=b0 at HND HFK;generalize atN (nth L k) 11=b1 at HND;generalize(nth L k).up=up at HND;generalize(nth L k).kids.length=kl at HND;obtain⟨tx,htx⟩:∃z:ByteArray,⟨(nth L k).text.toArray⟩=z:=⟨_,rfl⟩;have htd:tx.data.toList=(nth L k).text:=by rw[<-htx]
    have hts:tx.size≤100000:=by rw[<-htx];show(nth L k).text.toArray.size≤_;rw[List.size_toArray];omega
    rw[htx]at HND;rw[<-htd]at HFK;have q0:wr.cell? ⟨g,k*16,none⟩=some (Iq kd):=HND 0 _ rfl;have q1:=HND 1 _ rfl;have q2:=HND 2 _ rfl;have q3:=HND 3 _ rfl;have q4:=HND 4 _ rfl;have q5:=HND 5 _ rfl;have q6:=HND 6 _ rfl;have q7:=HND 7 _ rfl;have q8:=HND 8 _ rfl;have q9:=HND 9 _ rfl;have q10:=HND 10 _ rfl;have q11:=HND 11 _ rfl;have q12:=HND 12 _ rfl;have q13:=HND 13 _ rfl;have q14:=HND 14 _ rfl;have q15:=HND 15 _ rfl;obtain⟨A,hA⟩:=nmd wr.heap.size;obtain⟨W1,hW1⟩:=nmd (wr.alloc (.cells #[Iq kd,Iq a0,Iq a1,Iq a2,Iq a3,Iq a4,Iq a5,Iq a6,Iq a7,Iq a8,Iq a9,Iq b0,Iq b1,.string tx,.slice pk kl ck,Iq up] 61));have HG1:Hid (Gr wr W1):=by rw[<-hW1];exact(Gr.refl wr).alloc _
    have hn1:W1.heap[A]?=some (.cells #[Iq kd,Iq a0,Iq a1,Iq a2,Iq a3,Iq a4,Iq a5,Iq a6,Iq a7,Iq a8,Iq a9,Iq b0,Iq b1,.string tx,.slice pk kl ck,Iq up] 61 (0,0)):=by rw[<-hW1,<-hA];exact heap_alloc_new _ _
    have hr1:R8 W1 B K f0 f1 f2 c0 c1 c2 c3:=(HG1.block HBl).trans HR;have hBA:B<A:=by rw[<-hA];exact HBl
    have x0:=cell_up HG1.below y0;have x1:=cell_up HG1.below y1;have x2:=cell_up HG1.below y2;have x3:=cell_up HG1.below y3;have x4:=cell_up HG1.below y4;have x5:=cell_up HG1.below y5;have x6:=cell_up HG1.below y6;have x7:=cell_up HG1.below y7;have v0:=cell_up HG1.below st0;have v1:=cell_up HG1.below st1;have v2:=cell_up HG1.below st2;have r0:W1.cell? ⟨B,0,none⟩=some (Pq K):=by rw[Lib.cell_of_heap (show W1.heap[B]?=_ from hr1)];rfl
    have r1:W1.cell? ⟨B,1,none⟩=some (Iq f0):=by rw[Lib.cell_of_heap (show W1.heap[B]?=_ from hr1)];rfl
    have r2:W1.cell? ⟨B,2,none⟩=some (Iq f1):=by rw[Lib.cell_of_heap (show W1.heap[B]?=_ from hr1)];rfl
    have r3:W1.cell? ⟨B,3,none⟩=some (Iq f2):=by rw[Lib.cell_of_heap (show W1.heap[B]?=_ from hr1)];rfl
    have r4:W1.cell? ⟨B,4,none⟩=some (Iq c0):=by rw[Lib.cell_of_heap (show W1.heap[B]?=_ from hr1)];rfl
    have r5:W1.cell? ⟨B,5,none⟩=some (Iq c1):=by rw[Lib.cell_of_heap (show W1.heap[B]?=_ from hr1)];rfl
    have r6:W1.cell? ⟨B,6,none⟩=some (Iq c2):=by rw[Lib.cell_of_heap (show W1.heap[B]?=_ from hr1)];rfl
    have r7:W1.cell? ⟨B,7,none⟩=some (Iq c3):=by rw[Lib.cell_of_heap (show W1.heap[B]?=_ from hr1)];rfl
    have hfz:∀j,W1.frozen? ⟨B,j,none⟩=false:=fun j=>frozen_of_row _ _ _ _ _ hr1;have HR1:=qH hr1;have HN1:=qH hn1;clear HND hkv htx htd HST HPC HR hr1 hn1 htl;go_wp2_with fail;clear hW1 hA q0 q1 q2 q3 q4 q5 q6 q7 q8 q9 q10 q11 q12 q13 q14 q15 y0 y1 y2 y3 y4 y5 y6 y7 st0 st1 st2;go_region;obtain⟨W2,hW2⟩:=nmd (((((((W1.setCell ⟨B,1,none⟩ (.int .i64 s0)).setCell ⟨B,2,none⟩ (.int .i64 s1)).setCell ⟨B,3,none⟩ (.int .i64 s2)).setCell ⟨B,4,none⟩ (.int .i64 p4)).setCell ⟨B,5,none⟩ (.int .i64 p5)).setCell ⟨B,6,none⟩ (.int .i64 p6)).setCell ⟨B,7,none⟩ (.int .i64 p7)).drew;have HR2:Hid (R8 W2 B K s0 s1 s2 p4 p5 p6 p7):=by rw[<-hW2];exact HR1.seven s0 s1 s2 p4 p5 p6 p7
    have HC2:Hid (Chm B W1 W2):=by rw[<-hW2];exact((((((((Chm.refl B W1).set (.inl rfl) 1 _).set (.inl rfl) 2 _).set (.inl rfl) 3 _).set (.inl rfl) 4 _).set (.inl rfl) 5 _).set (.inl rfl) 6 _).set (.inl rfl) 7 _).drewn
    rw[hW2];clear hW2;have HSZ:Hid (A<W1.heap.size):=(Array.getElem?_eq_some_iff.1 HN1).1;have HZ2:=qH HC2.size;have HL2:Hid (∀b,b<B->W2.heap[b]?=wr.heap[b]?):=fun b hb=>(HC2.block b (by have:=HSZ.out;omega) (by omega)).trans (HG1.block (by have:=HBl.out;omega));have HU2:Hid (Below U.heap.size U W2):=HC2.low hUB (by have:=HSZ.out;omega) (HU.trans (HG1.below.mono (by have:=HBl.out;omega)));have HCS:Hid (CS 89 34 W2 K M (W*H) W H (frK W H L P k)):=⟨(HL2 K hKl).trans ((HKp K hKl HC5.ne).trans HC5.kb),HV.keep (HL2 M hMl),HC5.ne,HC5.hc⟩;have HS:Hid (∀u,Chm M W2 u->u.cell? ⟨B,0,none⟩=some (Pq K)∧u.cell? ⟨B,1,none⟩=some (Iq s0)∧u.cell? ⟨B,2,none⟩=some (Iq s1)∧u.cell? ⟨B,3,none⟩=some (Iq s2)∧u.cell? ⟨B,4,none⟩=some (Iq p4)∧u.cell? ⟨B,5,none⟩=some (Iq p5)∧u.cell? ⟨B,6,none⟩=some (Iq p6)∧u.cell? ⟨B,7,none⟩=some (Iq p7)∧u.cell? ⟨A,0,none⟩=some (Iq kd)∧u.cell? ⟨A,1,none⟩=some (Iq a0)∧u.cell? ⟨A,2,none⟩=some (Iq a1)∧u.cell? ⟨A,3,none⟩=some (Iq a2)∧u.cell? ⟨A,4,none⟩=some (Iq a3)∧u.cell? ⟨A,5,none⟩=some (Iq a4)∧u.cell? ⟨A,6,none⟩=some (Iq a5)∧u.cell? ⟨A,7,none⟩=some (Iq a6)∧u.cell? ⟨A,8,none⟩=some (Iq a7)∧u.cell? ⟨A,9,none⟩=some (Iq a8)∧u.cell? ⟨A,10,none⟩=some (Iq a9)∧u.cell? ⟨A,11,none⟩=some (Iq b0)∧u.cell? ⟨A,12,none⟩=some (Iq b1)∧u.cell? ⟨A,13,none⟩=some (.string tx)∧u.cell? ⟨A,14,none⟩=some (.slice pk kl ck)∧u.cell? ⟨A,15,none⟩=some (Iq up)∧u.cell? ⟨pb,k*10,none⟩=some (Iq p0)∧u.cell? ⟨pb,k*10+1,none⟩=some (Iq p1)∧u.cell? ⟨pb,k*10+2,none⟩=some (Iq p2)∧u.cell? ⟨pb,k*10+3,none⟩=some (Iq p3)):=fun u hu=>by
     have e1:=(hu.block B (by have:=HSZ.out;have:=HZ2.out;omega) (by omega)).trans HR2;have e2:=(hu.block A (by have:=HSZ.out;have:=HZ2.out;omega) (by omega)).trans ((HC2.block A HSZ (by omega)).trans HN1);have e3:=fun o=>World.cell?_of_block (a:=⟨pb,o,none⟩) ((hu.block pb (by have:=HSZ.out;have:=HZ2.out;omega) hpM).trans (HC2.block pb (by have:=HSZ.out;omega) (by omega)));refine⟨?_,?_,?_,?_,?_,?_,?_,?_,?_,?_,?_,?_,?_,?_,?_,?_,?_,?_,?_,?_,?_,?_,?_,?_,(e3 _).trans x0,(e3 _).trans x1,(e3 _).trans x2,(e3 _).trans x3⟩;all_goals first
      |(rw[Lib.cell_of_heap e1];rfl)
      |(rw[Lib.cell_of_heap e2];rfl)
    have PA:Hid (∀u,u=W2∨u=W2.drew->Calls prog 16 #[.agg #[Pq K,Iq s0,Iq s1,Iq s2,Iq p4,Iq p5,Iq p6,Iq p7],.agg #[Iq kd,Iq a0,Iq a1,Iq a2,Iq a3,Iq a4,Iq a5,Iq a6,Iq a7,Iq a8,Iq a9,Iq b0,Iq b1,.string tx,.slice pk kl ck,Iq up],.agg #[Iq p0,Iq p1,Iq p2,Iq p3]] u fun e u'=>e=.returned (.tuple #[])∧Hid (Cv 34 u' M W H (frK W H L P (k+1)))∧Hid (Chm M W2 u')):=fun u hu=>by
     have hcu:Chm M W2 u:=by rcases hu with rfl|rfl<;>first|exact Chm.refl _ _|exact(Chm.refl _ _).drewn
     have hku:∀b:Nat,u.heap[b]?=W2.heap[b]?:=by rcases hu with rfl|rfl<;>exact fun _=>rfl
     rw[HFK.out];refine(paint_any U u (K:=K) (M:=M) (cap:=W*H) ⟨(hku K).trans HCS.kb,HCS.cv.keep (hku M),HCS.ne,HCS.hc⟩ hW hH (PAll.frK hW hH L P k) HTB (hcu.low hUM (by have:=HU2.size;omega) HU2) hUM s0 s1 s2 p4 p5 p6 p7 kd a0 a1 a2 a3 a4 a5 a6 a7 a8 a9 b0 b1 up tx (.slice pk kl ck) p0 p1 p2 p3 hts ?_ ?_ ?_ ?_ ?_ ?_).mono fun e u' q=>⟨q.1,q.2.1,hcu.trans q.2.2⟩;all_goals omega
    obtain⟨g0,g1,g2,g3,g4,g5,g6,g7,g8,g9,g10,g11,g12,g13,g14,g15,g16,g17,g18,g19,g20,g21,g22,g23,g24,g25,g26,g27⟩:=HS W2 (Chm.refl _ _);clear x0 x1 x2 x3 x4 x5 x6 x7 v0 v1 v2 r0 r1 r2 r3 r4 r5 r6 r7 hfz HFK HN1 HR1 hsz hon hbd;go_wp2_with fail;go_region_held(fun W_=>W_.cell? ⟨B,0,none⟩=some (Pq K)∧W_.cell? ⟨B,1,none⟩=some (Iq s0)∧W_.cell? ⟨B,2,none⟩=some (Iq s1)∧W_.cell? ⟨B,3,none⟩=some (Iq s2)∧W_.cell? ⟨B,4,none⟩=some (Iq p4)∧W_.cell? ⟨B,5,none⟩=some (Iq p5)∧W_.cell? ⟨B,6,none⟩=some (Iq p6)∧W_.cell? ⟨B,7,none⟩=some (Iq p7)∧W_.cell? ⟨A,0,none⟩=some (Iq kd)∧W_.cell? ⟨A,1,none⟩=some (Iq a0)∧W_.cell? ⟨A,2,none⟩=some (Iq a1)∧W_.cell? ⟨A,3,none⟩=some (Iq a2)∧W_.cell? ⟨A,4,none⟩=some (Iq a3)∧W_.cell? ⟨A,5,none⟩=some (Iq a4)∧W_.cell? ⟨A,6,none⟩=some (Iq a5)∧W_.cell? ⟨A,7,none⟩=some (Iq a6)∧W_.cell? ⟨A,8,none⟩=some (Iq a7)∧W_.cell? ⟨A,9,none⟩=some (Iq a8)∧W_.cell? ⟨A,10,none⟩=some (Iq a9)∧W_.cell? ⟨A,11,none⟩=some (Iq b0)∧W_.cell? ⟨A,12,none⟩=some (Iq b1)∧W_.cell? ⟨A,13,none⟩=some (.string tx)∧W_.cell? ⟨A,14,none⟩=some (.slice pk kl ck)∧W_.cell? ⟨A,15,none⟩=some (Iq up)∧W_.cell? ⟨pb,k*10,none⟩=some (Iq p0)∧W_.cell? ⟨pb,k*10+1,none⟩=some (Iq p1)∧W_.cell? ⟨pb,k*10+2,none⟩=some (Iq p2)∧W_.cell? ⟨pb,k*10+3,none⟩=some (Iq p3)) (go_keep) (first|(go_at_call 16;refine Calls.mono (PA _ (by first|exact .inl rfl|exact .inr rfl)) ?_;rintro e u6 ⟨rfl,HV6,HC6⟩;obtain⟨j0,j1,j2,j3,j4,j5,j6,j7,j8,j9,j10,j11,j12,j13,j14,j15,j16,j17,j18,j19,j20,j21,j22,j23,j24,j25,j26,j27⟩:=HS u6 HC6));all_goals
     have HR6:Hid (R8 u6 B K s0 s1 s2 p4 p5 p6 p7):=(HC6.block B (by have:=HSZ.out;have:=HZ2.out;omega) (by omega)).trans HR2;have HK6:Hid (∀b,b<B->b≠M->u6.heap[b]?=u5.heap[b]?):=fun b h1 h2=>(HC6.block b (by have:=HSZ.out;have:=HZ2.out;omega) h2).trans ((HL2 b h1).trans (HKp b h1 h2));have HZ6:Hid (B<u6.heap.size):=by show _<_;have:=HC6.size;have:=HSZ.out;have:=HZ2.out;omega
     have HU6:Hid (Below U.heap.size U u6):=HC6.low hUM (by have:=HU2.size;omega) HU2;go_wp2;go_roundw;case rel=>exact⟨k+1,hlt,by go_num,HV6,HU6,HK6,HZ6,_,_,_,_,_,_,_,HR6⟩
     case measure=>simp[intOf];omega
   ·have hlt':¬(k:Int)<(n:Int):=by omega
    obtain rfl:k=n:=by omega
    have hb0:wr.cell? ⟨B,0,none⟩=some (Pq K):=by rw[Lib.cell_of_heap HR.out];rfl
    have HCW:Hid (CS 89 34 wr K M (W*H) W H (frK W H L P k)):=⟨(HKp K hKl HC5.ne).trans HC5.kb,HV,HC5.ne,HC5.hc⟩;have CE:Hid (Calls prog 17 #[Pq K] wr fun e w'=>∃N cap',e=.returned (Sq N (W*H) cap')∧Hid (Cv 34 w' N W H (frK W H L P k))∧Hid (wr.heap.size≤N)∧Hid (Below wr.heap.size wr w')):=cells_any wr HCW hW hH;go_wp2_with(go_at_call 17;refine CE.mono ?_;rintro e u6 ⟨N,cap6,rfl,HV6,HN6,HB6⟩);refine bodyPost_ret (results_tmp3 rfl _ _ _) rfl ?_;exact⟨HU.trans (HB6.mono HU.size),.inr ⟨W,H,rfl,rfl,hW,hH,N,cap6,P,Wd,Hf,HPL.1,HPL.2,rfl,by rw[HLN.out];exact HV6,Nat.le_trans HU.size HN6⟩⟩
end
section
open Go.RowKit Go.Sort Go.Proofs.Tryz
def rightP(t:ByteArray)(w h:Int):Prop:=∃L,pTree t=.ok L∧1≤w∧w≤400∧1≤h∧h≤400
def rightB(t:ByteArray)(w h:Int):Bool:=match pTree t with
 |.ok _=>decide (1≤w∧w≤400∧1≤h∧h≤400)
 |.error _=>false
theorem rightB_yes{t:ByteArray}{w h:Int}(q:rightP t w h):rightB t w h=true:=by obtain⟨L,hp,q⟩:=q;unfold rightB;rw[hp];exact decide_eq_true q
theorem rightB_no{t:ByteArray}{w h:Int}(q:¬rightP t w h):rightB t w h=false:=by
 unfold rightB;cases hp:pTree t with
 |error x=>rfl
 |ok L=>exact decide_eq_false (fun z=>q ⟨L,hp,z⟩)
theorem right_any(t:ByteArray)(w h:Int)(U:World):Calls prog 5 #[.string t,Iq w,Iq h] U fun e U'=>e=.returned (.bool (rightB t w h))∧Below U.heap.size U U':=by
 have RP:Hid (Calls prog 11 #[.string t] U fun e w'=>RpOut U w' e (parse t)):=rparse_any t U;cases hp:pTree t with
 |error x=>
  have hx:(errC x:Int)≠0:=by have:=err_pos hp;omega
  have HF:Hid (rightB t w h=false):=rightB_no (fun⟨L,q,_⟩=>by rw[hp]at q;cases q);rw[parse_of_err hp]at RP;obtain⟨c,hc⟩:∃z:Int,(errC x:Int)=z:=⟨_,rfl⟩;obtain⟨d,hd⟩:∃z:Int,(errP x:Int)=z:=⟨_,rfl⟩;have RP2:Hid (Calls prog 11 #[.string t] U fun e w'=>e=.returned (.tuple #[.slice none 0 0,Iq c,Iq d])∧Hid (Below U.heap.size U w')):=RP.mono fun e w' q=>⟨by have:=q.2;dsimp only at this;rw[hc,hd]at this;exact this,q.1⟩;rw[hc]at hx;clear RP hp hc hd;go_enter func5,ntmps5;go_wp2_with(go_at_call 11;refine RP2.mono ?_;rintro e U1 ⟨rfl,HB⟩);all_goals go_ret;exact⟨by rw[HF.out];rfl,HB⟩
 |ok L=>
  rw[parse_of_ok hp]at RP;have HY:Hid ((1≤w∧w≤400∧1≤h∧h≤400)->rightB t w h=true):=fun q=>rightB_yes ⟨L,hp,q⟩;have HN:Hid (¬(1≤w∧w≤400∧1≤h∧h≤400)->rightB t w h=false):=fun q=>rightB_no (fun⟨_,_,z⟩=>q z);have RP2:Hid (Calls prog 11 #[.string t] U fun e w'=>∃nv,e=.returned (.tuple #[nv,Iq 0,Iq 0])∧Hid (Below U.heap.size U w')):=RP.mono fun e w' q=>by obtain⟨h1,nv,_,_,h2,_⟩:=q;exact⟨nv,h2,h1⟩
  clear RP hp;go_enter func5,ntmps5;go_wp2_with(go_at_call 11;refine RP2.mono ?_;rintro e U1 ⟨nv,rfl,HB⟩;by_cases h1:1≤w;by_cases h2:w≤400;by_cases h3:1≤h;by_cases h4:h≤400);all_goals
   go_ret;first
    |exact⟨by rw[HY (by omega)];rfl,HB⟩
    |exact⟨by rw[HN (by omega)];rfl,HB⟩
    |exact⟨by rw[HY (by omega)];exact congrArg (fun z=>Ending.returned (Value.bool z)) (decide_eq_true (by omega)),HB⟩
    |exact⟨by rw[HN (by omega)];exact congrArg (fun z=>Ending.returned (Value.bool z)) (decide_eq_false (by omega)),HB⟩
end
section
open Go.RowKit Go.Sort Go.Proofs.Tryz
theorem GdA.wrL{W H:Nat}(hW:1≤W∧W≤400)(hH:1≤H∧H≤400)(f g bd cx cy ca cb x y:Int)(s:List UInt8){c:Nat->Nat->Ce}(h:PAll W H c∧GdA W H c):PAll W H (wrL W H f g bd cx cy ca cb x y s c)∧GdA W H (wrL W H f g bd cx cy ca cb x y s c):=by
 unfold Go.Proofs.YtmbefonnkkhfgaaGreatDoor.wrL;split;·exact h
 ·exact wrF_keep W H f g bd cx cy ca cb (P:=fun c=>PAll W H c∧GdA W H c) y _ x c (fun q hq x c hc=>⟨hc.1.putX hW hH _ _ _ _ _ _ _ _ _ _ _,hc.2.put hc.1 hW hH _ _ _ _ _ _ _ _ _ _ _ (gd_clus hq)⟩) h
theorem frK_good{W H:Nat}(hW:1≤W∧W≤400)(hH:1≤H∧H≤400)(L:List Nd)(P:Nat->Nat->Int)(k:Nat):PAll W H (frK W H L P k)∧GdA W H (frK W H L P k):=
 frK_keep (Q:=fun c=>PAll W H c∧GdA W H c) ⟨PAll.blank W H,fun _ _ _ _=>gd_bk 0 0 0⟩ (fun c _ _ _ _ _ _ _ _ _ _ _ hc=>⟨hc.1.filX hW hH _ _ _ _ _ _ _ _ _ _ _,hc.2.fil hc.1 hW hH _ _ _ _ _ _ _ _ _ _ _⟩) (fun _ _ _ _ _ _ _ _ _ _ c hc=>GdA.wrL hW hH _ _ _ _ _ _ _ _ _ _ hc) k
theorem ppairs_walk(t:ByteArray)(w h:Int)(sp:Option Addr)(sn sc:Nat)(idf off:Nat->Int)(E:Nat->Addr)(W0:World)(hG:Glo W0 E)(hA:Apart W0 E)(hE:ErT W0)(ht:TabAt W0)(hsc:Scr W0 sp sn idf off)(hsn:sn≤8796093022208):
 Calls prog 3 #[.string t,Iq w,Iq h,.slice sp sn sc] W0 fun e W'=>e=.returned (.bool true)∧Below W0.heap.size W0 W':=by
 have hmix:prog.follows .mixedOrders=true:=by kernel_rfl
 have RT:Hid (Calls prog 5 #[.string t,Iq w,Iq h] W0 fun e U'=>e=.returned (.bool (rightB t w h))∧Hid (Below W0.heap.size W0 U')):=right_any t w h W0;have NU:Hid (∀n u,Calls prog 8 #[Iq n] u fun e w'=>e=.returned (Iq n)∧w'=u):=lnum_any;have SC:Hid (∀u,Below W0.heap.size W0 u->Calls prog 7 #[.slice sp sn sc] u fun e u'=>∃p c,e=.returned (.slice p sn c)∧Hid (Scr u' p sn idf off∧(∀a:Addr,p=some a->a.block<u'.heap.size)∧Below u.heap.size u u')):=fun u hu=>(scrolls_any sp sn sc idf off u (hsc.below hu) hsn).mono (by rintro e u' ⟨p,c,h1,h2,h3,h4⟩;exact⟨p,c,h1,h2,fun a e=>(h3 a e).2,h4⟩);have FR:Hid (∀u p c,Below W0.heap.size W0 u->Scr u p sn idf off->(∀a:Addr,p=some a->a.block<u.heap.size)->Calls prog 6 #[.string t,Iq w,Iq h,.slice p sn c] u fun e u'=>FrOut u u' w h idf off sn (pTree t) e):=fun u p c hu h1 h2=>pframe_any t w h p sn c idf off E u (hG.cells hu) (hA.below hu) (hE.below hu) (ht.below hu) h1 (by omega) h2;have HTB:=qH ht;clear hG hA hE ht hsc;by_cases hr:rightP t w h
 ·rw[rightB_yes hr]at RT;obtain⟨L,hp,hb⟩:=hr;obtain⟨W,rfl⟩:∃W:Nat,w=(W:Int):=⟨w.toNat,by omega⟩;obtain⟨H,rfl⟩:∃H:Nat,h=(H:Int):=⟨h.toNat,by omega⟩;have hW:1≤W∧W≤400:=by omega
  have hH:1≤H∧H≤400:=by omega
  have FR2:Hid (∀u p c,Below W0.heap.size W0 u->Scr u p sn idf off->(∀a:Addr,p=some a->a.block<u.heap.size)->Calls prog 6 #[.string t,Iq W,Iq H,.slice p sn c] u fun e u'=>∃N cap,e=.returned (.tuple #[Sq N (W*H) cap,Iq 0,Iq 0])∧Hid (∃cc,Cv 34 u' N W H cc∧PAll W H cc∧GdA W H cc)∧Hid (Below u.heap.size u u')):=fun u p c a1 a2 a3=>(FR u p c a1 a2 a3).mono fun e u' q=>by
   rw[hp]at q;obtain⟨hb',q⟩:=q;rcases q with⟨q,_⟩|⟨W',H',e1,e2,_,_,N,cap,P,Wd,Hf,_,_,q3,q4,_⟩;·exact absurd hb q
   ·obtain rfl:W=W':=by omega
    obtain rfl:H=H':=by omega
    have:=frK_good hW hH L P L.length;exact⟨N,cap,q3,⟨_,q4,this.1,this.2⟩,hb'⟩
  obtain⟨n,hn⟩:=nmd (W*H);have hnb:1≤n∧n≤160000:=by rw[<-hn];exact⟨Nat.mul_le_mul hW.1 hH.1,Nat.mul_le_mul hW.2 hH.2⟩
  have hnI:(W:Int)*(H:Int)=(n:Int):=by rw[<-hn];exact(Int.natCast_mul W H).symm
  have HN:=qH hn;rw[hn]at FR2;clear FR hp hb hn;go_enter func3,ntmps3;go_wp2_with(first|(go_at_call 5;refine RT.mono ?_;rintro e u1 ⟨rfl,HB1⟩)|(go_at_call 7;refine Calls.mono (SC _ HB1) ?_;rintro e u2 ⟨p2,c2,rfl,HS2⟩)|(go_at_call 6;refine Calls.mono (FR2 _ _ _ (HB1.trans (HS2.2.2.mono HB1.size)) HS2.1 HS2.2.1) ?_;rintro e u3 ⟨N,cap,rfl,HCV,HB3⟩)|(go_at_call 8;(with_reducible refine Calls.mono (NU.out _ _) ?_);rintro e u5 ⟨rfl,h5⟩;obtain rfl:=h5.symm));have HB:Hid (Below W0.heap.size W0 u3):=(HB1.trans (HS2.2.2.mono HB1.size)).trans (HB3.mono (Nat.le_trans HB1.size HS2.2.2.size));obtain⟨cc,hcv,hpa,hga⟩:=HCV.out;have HV:=qH hcv;have HP:=qH hpa;have HG:=qH hga;clear hcv hpa hga HCV RT SC FR2 NU;go_loopw[13] (fun iv wr=>∃i:Nat,i≤n∧iv=Iq (i:Int)∧Hid (Below u3.heap.size u3 wr)) (fun iv _=>n-(intOf iv).toNat);case atStart=>exact⟨0,Nat.zero_le _,rfl,Below.refl _ _⟩
  case round=>
   obtain⟨i,hi,rfl,HBr⟩:=hrel;have HVr:Hid (Cv 34 wr N W H cc):=HV.keep (HBr.block N HV.lt);by_cases hlt:i<n
   ·have hlt':(i:Int)<(n:Int):=by omega
    obtain⟨y,x,hy,hx,hyx⟩:∃y x,y<H∧x<W∧y*W*5+x*5=i*5:=by have h1:=Nat.div_add_mod i W;have h2:=Nat.mod_lt i (show 0<W by omega);refine⟨i/W,i %W,Nat.div_lt_of_lt_mul (by rw[HN.out];exact hlt),h2,?_⟩;rw[Nat.mul_comm W]at h1;omega
    have c0:=HVr.c0 hy hx;have c4:=HVr.c4 hy hx;have hg:=HG y x hy hx;rw[hyx]at c0 c4;obtain⟨⟨tx,f,g,b,p⟩,hce⟩:=nmd (cc y x);rw[hce]at c0 c4 hg;dsimp only at c0 c4;by_cases h2:p=2
    ·subst h2;clear hg hce;go_wp2;go_roundw;case rel=>exact⟨i+1,hlt,by go_num,HBr⟩
     case measure=>simp[intOf];omega
    ·have e2:(p==2)=false:=by simpa using h2
     have hg2:=hg.resolve_left h2;dsimp only at hg2;have hpp:p=0∨p=1:=by have:=(HP y hy).part x hx;rw[hce]at this;dsimp only at this;omega
     have GC:Hid (∀u,Below u3.heap.size u3 u->Calls prog 9 #[.string tx] u fun e w'=>∃gb gc,e=.returned (Sq gb 1 gc)∧w'.cell? ⟨gb,0,none⟩=some (.string tx)∧w'.cell? ⟨gb,1,none⟩=some (Iq (1+p))∧Hid (Below u.heap.size u w')):=fun u hu=>by
      refine(gClusters_any tx u (HTB.below (HB.trans (hu.mono HB.size))) (by have:=hg2.2;omega)).mono ?_;rintro e w1 ⟨v,rfl,o,bb⟩;rw[hg2.1]at o;obtain⟨a,cp,hv,hh⟩:=cls_own o;obtain⟨gb,go,rfl,_,hc⟩:=hh.resolve_left (by simp);have h0:=hc 0 (by simp);rcases o.2 with⟨q,_⟩|⟨g',cap',cur,q,_⟩;·rw[hv]at q;cases q
      ·rw[hv]at q;injection q with q1 q2 q3;injection q1 with q1;injection q1 with q1 q4;subst q1 q4;refine⟨gb,cp,by rw[hv];rfl,?_,?_,bb⟩;·have:=h0.1;simpa using this
       ·have:=h0.2;simpa using this
     have hpw:IntKind.i64.wrap (1+p)=1+p:=IntWalk.i64_in _ (by omega);clear hg hg2 hce;go_wp2_with(go_at_call 9;refine(GC _ HBr).mono ?_;rintro e u7 ⟨gb,gc,rfl,g0,g1,HB7⟩);have d0:=cell_up HB7 c0;have d4:=cell_up HB7 c4;go_quiet(fail);go_wp2;go_roundw;case rel=>exact⟨i+1,hlt,by go_num,HBr.trans ((HB7.mono HBr.size).trans ⟨rfl,rfl,rfl,Nat.le_refl _,fun _ _=>rfl⟩)⟩
     case measure=>simp[intOf];omega
   ·have hlt':¬(i:Int)<(n:Int):=by omega
    have PD:Hid (Calls prog 10 #[Sq N n cap,Iq W] wr fun e w'=>e=.returned (.bool true)∧Hid (Gr wr w')):=by rw[<-HN.out];exact paired_yes wr HVr HP hW hH
    go_wp2_with(go_at_call 10;refine PD.mono ?_;rintro e u6 ⟨rfl,HG6⟩);go_ret;exact⟨rfl,HB.trans ((HBr.trans (HG6.below.mono HBr.size)).mono HB.size)⟩
 ·rw[rightB_no hr]at RT;have FR3:Hid (∀u p c,Below W0.heap.size W0 u->Scr u p sn idf off->(∀a:Addr,p=some a->a.block<u.heap.size)->Calls prog 6 #[.string t,Iq w,Iq h,.slice p sn c] u fun e u'=>∃k d,e=.returned (.tuple #[.slice none 0 0,Iq k,Iq d])∧(k==0)=false∧Hid (Below u.heap.size u u')):=fun u p c a1 a2 a3=>(FR u p c a1 a2 a3).mono fun e u' q=>by
   cases hp:pTree t with
   |error x=>
    rw[hp]at q;have hx:(errC x:Int)≠0:=by have:=err_pos hp;omega
    exact⟨_,_,q.2,by simpa using hx,q.1⟩
   |ok L=>
    rw[hp]at q;obtain⟨hb',q⟩:=q;rcases q with⟨_,q⟩|⟨W',H',e1,e2,h1,h2,_⟩;·exact⟨_,_,q,rfl,hb'⟩
    ·exact absurd ⟨L,hp,by omega⟩ hr
  clear FR;go_enter func3,ntmps3;go_wp2_with(first|(go_at_call 5;refine RT.mono ?_;rintro e u1 ⟨rfl,HB1⟩)|(go_at_call 7;refine Calls.mono (SC _ HB1) ?_;rintro e u2 ⟨p2,c2,rfl,HS2⟩)|(go_at_call 6;refine Calls.mono (FR3 _ _ _ (HB1.trans (HS2.2.2.mono HB1.size)) HS2.1 HS2.2.1) ?_;rintro e u3 ⟨k,d,rfl,hk,HB3⟩)|(go_at_call 8;(with_reducible refine Calls.mono (NU.out _ _) ?_);rintro e u5 ⟨rfl,h5⟩;obtain rfl:=h5.symm));go_ret;refine⟨?_,(HB1.trans (HS2.2.2.mono HB1.size)).trans (HB3.mono (Nat.le_trans HB1.size HS2.2.2.size))⟩;simpa using hk
end
end Go.Proofs.YtmbefonnkkhfgaaGreatDoor
