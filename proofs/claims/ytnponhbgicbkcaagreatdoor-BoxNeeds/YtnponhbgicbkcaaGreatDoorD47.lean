import Derived.Test.YtnponhbgicbkcaaGreatDoorD39
import Derived.Test.YtnponhbgicbkcaaGreatDoorD30
import Derived.Test.YtnponhbgicbkcaaGreatDoorD40
import Derived.Test.YtnponhbgicbkcaaGreatDoorD00
import Derived.Test.YtnponhbgicbkcaaGreatDoorD44
import Derived.Test.YtnponhbgicbkcaaGreatDoorD46
import Derived.Test.YtnponhbgicbkcaaGreatDoorD16
import Derived.Test.YtnponhbgicbkcaaGreatDoorD28
import Derived.Test.YtnponhbgicbkcaaGreatDoorD29
set_option linter.unusedVariables false
set_option maxRecDepth 100000
set_option maxHeartbeats 16000000
namespace Go.Proofs.YtnponhbgicbkcaaGreatDoor
section
open Go.RowKit Go.Sort
theorem sz_pick(t:ByteArray):∃Wd H,∀L,pTree t=.ok L->Sz L Wd H:=by
 cases hp:pTree t with
 |error x=>exact⟨fun _=>0,fun _ _=>0,fun L q=>by cases q⟩
 |ok L=>obtain⟨Wd,H,hS⟩:=sz_ex (parse_tree (parse_of_ok hp)).nest;exact⟨Wd,H,fun L' q=>by cases q;exact hS⟩
end
section
open Go.RowKit Go.Sort
theorem results_tmp4{fn:Func}{t u v x:Tmp}(h:fn.results=#[.tmp t,.tmp u,.tmp v,.tmp x])(tmps:Array Value)(P:Program)(w:World):
 (results fn tmps).run P w=.ok (.tuple #[tmps.getD t undef,tmps.getD u undef,tmps.getD v undef,tmps.getD x undef]) w:=by simp[results,h]
def NeAt(U U':World)(w:Int)(Wd:Nat->Int)(H:Nat->Int->Int)(r:Except (Option (Nat×Nat)) (List Nd))(e:Ending):Prop:=Below U.heap.size U U'∧match r with
 |.error x=>e=.returned (.tuple #[.int .i64 0,.int .i64 0,.int .i64 (errC x:Int),.int .i64 (errP x:Int)])
 |.ok L=>(¬(0≤w∧w≤400)∧e=.returned (.tuple #[.int .i64 0,.int .i64 0,.int .i64 6,.int .i64 0]))∨((0≤w∧w≤400)∧e=.returned (.tuple #[.int .i64 (Wd 0),.int .i64 (H 0 w),.int .i64 0,.int .i64 0]))
theorem need_at(t:ByteArray)(w:Int)(E:Nat->Addr)(U:World)(hG:Glo U E)(hA:Apart U E)(hE:ErT U)(ht:TabAt U)(Wd:Nat->Int)(H:Nat->Int->Int)(hSz:∀L,pTree t=.ok L->Sz L Wd H):
 Calls Tryz.prog 7 #[.string t,.int .i64 w] U fun e U'=>NeAt U U' w Wd H (pTree t) e:=by
 have HSz:=qH<|hSz;have hmix:Tryz.prog.follows .mixedOrders=true:=by kernel_rfl
 have TP:=qH<|tparse_any t E U hG hA hE;have HT:=qH<|ht;clear hG hA hE ht hSz;go_enter Tryz.func7,Tryz.ntmps7;go_wp2_with fail;refine TP.out.mono ?_;rintro e U1 ⟨hb1,hr⟩;have HB1:=qH<|hb1;clear hb1 TP;cases hp:pTree t with
 |error x=>
  rw[hp]at hr;subst hr;have hx:(errC x:Int)≠0:=by have:=err_pos hp;omega
  have hx2:((errC x:Int)!=0)=true:=by simpa using hx
  have HPP:=qH<|hp;obtain⟨c,hc⟩:∃z:Int,(errC x:Int)=z:=⟨_,rfl⟩;have HCE:=qH<|hc;rw[hc]at hx hx2⊢;clear hp hc;go_wp2;refine bodyPost_ret (results_tmp4 rfl _ _ _) rfl ?_;rw[HPP.out];exact⟨HB1.out,by show _=_;rw[HCE.out];rfl⟩
 |ok L=>
  rw[hp]at hr;obtain⟨nv,KV,rfl,hn⟩:=hr;have hT:=parse_tree (parse_of_ok hp);have hS:=HSz.out L hp;have hpos:=hT.pos;obtain⟨g,cap,rfl⟩:∃g cap,nv=.slice (some ⟨g,0,none⟩) L.length cap:=by
   obtain⟨xs,hx⟩:=hn.nr.row;rcases own_form hx with⟨_,h0⟩|⟨g,cap,e,_⟩;·omega
   ·exact⟨g,cap,e⟩
  have HN:=qH<|hn;have HPP:=qH<|hp;clear hn hp;by_cases hw:0≤w
  ·have d0:¬w<0:=by omega
   by_cases hw4:w≤400
   ·have d4:¬400<w:=by omega
    have NM:Hid (Calls Tryz.prog 22 #[.slice (some ⟨g,0,none⟩) L.length cap] U1 fun e u'=>∃mb r wb,e=.returned (.pointer (some ⟨mb,0,none⟩))∧Hid (Below U1.heap.size U1 u'∧Hs u' mb r g cap wb L KV Wd H 0∧U1.heap.size≤r)):=by refine(newMeasure_any g cap hT hS U1 _ HN.out (HT.out.below HB1.out)).mono ?_;rintro e u' ⟨mb,r,wb,h1,h2,h3,h4⟩;exact⟨mb,r,wb,h1,h2,h3,h4⟩
    go_wp2_with fail;refine NM.out.mono ?_;rintro e u6 ⟨mb,r,wb,rfl,HH⟩;have HC:Hid (∀u n,Hs u mb r g cap wb L KV Wd H n->u.cell? ⟨mb,1,none⟩=some (.slice (some ⟨wb,0,none⟩) L.length L.length)∧u.cell? ⟨wb,0,none⟩=some (.int .i64 (Wd 0))):=fun u n h=>by refine⟨?_,h.view.wd 0 hpos⟩;have:=h.view.ms;unfold Ms at this;rw[Lib.cell_of_heap this];rfl
    have HHD:=qH<|HH.out.2.1.below (Below.refl _ _).drew;have HT2:Hid (Calls Tryz.prog 23 #[.pointer (some ⟨mb,0,none⟩),.int .i64 0,.int .i64 w] u6.drew fun e U'=>e=.returned (.int .i64 (H 0 w))∧Hid (u6.drew.grownBy U' (some r)∧Hs U' mb r g cap wb L KV Wd H (0+100))):=by refine(height_any mb r g cap wb hT hS 0 w 0 u6.drew hpos hw (by omega) HHD.out (by omega)).mono ?_;rintro e U' ⟨rfl,h1,h2⟩;exact⟨rfl,h1.out,HHD.out.grown h1.out h2.out⟩
    obtain⟨m1,m0⟩:=HC.out u6 0 HH.out.2.1;have hposI:(0:Int)<(L.length:Int):=by omega
    go_wp2_with fail;go_region_held(fun W=>W.cell? ⟨mb,1,none⟩=some (.slice (some ⟨wb,0,none⟩) L.length L.length)∧W.cell? ⟨wb,0,none⟩=some (.int .i64 (Wd 0))) (go_keep) (first|(go_at_call 23;refine Calls.mono HT2.out ?_;rintro e u7 ⟨rfl,HG7⟩;obtain⟨n1,n0⟩:=HC.out u7 _ HG7.out.2));all_goals go_wp2;refine bodyPost_ret (results_tmp4 rfl _ _ _) rfl ?_;rw[HPP.out];have hb1:=HB1.out;obtain⟨q1,q2,q3⟩:=HH.out;have hb6:=(hb1.trans (q1.mono hb1.size)).drew;have hle:=hb1.size;refine⟨hb6.grown HG7.out.1 hb6.size (fun k hk=>by injection hk with hk;omega),.inr ⟨⟨hw,hw4⟩,rfl⟩⟩
   ·have d4:400<w:=by omega
    clear HN;go_wp2;refine bodyPost_ret (results_tmp4 rfl _ _ _) rfl ?_;rw[HPP.out];exact⟨HB1.out,.inl ⟨fun q=>by omega,rfl⟩⟩
  ·have d0:w<0:=by omega
   clear HN;go_wp2;refine bodyPost_ret (results_tmp4 rfl _ _ _) rfl ?_;rw[HPP.out];exact⟨HB1.out,.inl ⟨fun q=>by omega,rfl⟩⟩
theorem needs_walk(s:ByteArray)(w:Int)(E:Nat->Addr)(W:World)(hG:Glo W E)(hA:Apart W E)(hE:ErT W)(ht:TabAt W):
 Calls Tryz.prog 3 #[.string s,.int .i64 w] W fun e W'=>e=.returned (.bool true)∧Below W.heap.size W W':=by
 obtain⟨Wd,H,hS⟩:=sz_pick s;have NE:=need_at s w E W hG hA hE ht Wd H hS;have NM:=qH<|lnum_any;cases hp:pTree s with
 |error x=>
  have hx:(errC x:Int)≠0:=by have:=err_pos hp;omega
  rw[hp]at NE;obtain⟨c,hc⟩:∃z:Int,(errC x:Int)=z:=⟨_,rfl⟩;obtain⟨d,hd⟩:∃z:Int,(errP x:Int)=z:=⟨_,rfl⟩;have NE2:Hid (Calls Tryz.prog 7 #[.string s,.int .i64 w] W fun e U'=>e=.returned (.tuple #[.int .i64 0,.int .i64 0,.int .i64 c,.int .i64 d])∧Hid (Below W.heap.size W U')):=NE.mono fun e U' q=>⟨by have:=q.2;dsimp only at this;rw[hc,hd]at this;exact this,q.1⟩;have RP2:Hid (∀U,Calls Tryz.prog 8 #[.string s] U fun e w'=>e=.returned (.tuple #[.slice none 0 0,.int .i64 c,.int .i64 d])∧Hid (Below U.heap.size U w')):=fun U=>(rparse_any s U).mono fun e w' q=>by rw[parse_of_err hp]at q;exact⟨by have:=q.2;dsimp only at this;rw[hc,hd]at this;exact this,q.1⟩
  rw[hc]at hx;have e1:(c==0)=false:=by simpa using hx
  have e2:(c !=0)=true:=by simpa using hx
  clear NE hp hc hd;go_enter Tryz.func3,Tryz.ntmps3;go_wp2_with(first|(go_at_call 7;refine NE2.out.mono ?_;rintro e U1 ⟨rfl,HB1⟩)|(go_at_call 8;refine(RP2.out _).mono ?_;rintro e U2 ⟨rfl,HB2⟩)|(go_at_call 9;refine(NM.out _ _).mono ?_;rintro e U3 ⟨rfl,h3⟩;obtain rfl:=h3.symm));all_goals go_ret;exact⟨by simp,HB1.out.trans (HB2.out.mono HB1.out.size)⟩
 |ok L=>
  have hT:=parse_tree (parse_of_ok hp);have hZ:=hS L hp;have hpos:=hT.pos;rw[hp]at NE;by_cases hw:0≤w∧w≤400
  ·have NE2:Hid (Calls Tryz.prog 7 #[.string s,.int .i64 w] W fun e U'=>e=.returned (.tuple #[.int .i64 (Wd 0),.int .i64 (H 0 w),.int .i64 0,.int .i64 0])∧Hid (Below W.heap.size W U')):=NE.mono fun e U' q=>by
    rcases q.2 with⟨h,_⟩|⟨_,h⟩;·exact absurd hw h
    ·exact⟨h,q.1⟩
   have RP2:Hid (∀U,Calls Tryz.prog 8 #[.string s] U fun e w'=>∃g cap,e=.returned (.tuple #[.slice (some ⟨g,0,none⟩) L.length cap,.int .i64 0,.int .i64 0])∧Hid (NdsR w' g L.length (nth L))∧Hid (Below U.heap.size U w')):=fun U=>(rparse_any s U).mono fun e w' q=>by
    rw[parse_of_ok hp]at q;obtain⟨h1,nv,AV,KV,h2,h3⟩:=q;obtain⟨g,cap,hv,hgl⟩:∃g cap,nv=.slice (some ⟨g,0,none⟩) L.length cap∧g<w'.heap.size:=by
     obtain⟨xs,hx⟩:=h3.nr.row;rcases own_form hx with⟨_,h0⟩|⟨g,cap,e,_,h5,_⟩;·omega
     ·exact⟨g,cap,e,h5⟩
    subst hv;exact⟨g,cap,h2,h3.nds hgl,h1⟩
   have WD:Hid (∀g cap u,NdsR u g L.length (nth L)->Calls Tryz.prog 10 #[.slice (some ⟨g,0,none⟩) L.length cap,.int .i64 0] u fun e U'=>e=.returned (.int .i64 (Wd 0))∧Hid (Below u.heap.size u U')):=fun g cap u hu=>wider_all hT hZ g cap L.length 0 (by omega) hpos u hu;have HG:Hid (∀g cap u,NdsR u g L.length (nth L)->Calls Tryz.prog 11 #[.slice (some ⟨g,0,none⟩) L.length cap,.int .i64 0,.int .i64 w] u fun e U'=>e=.returned (.int .i64 (H 0 w))∧Hid (Below u.heap.size u U')):=fun g cap u hu=>higher_all hT hZ g cap L.length 0 (by omega) hpos w hw.1 (by omega) u hu;obtain⟨hw0,hw1⟩:=hw;have d0:¬w<0:=by omega
   have d4:¬400<w:=by omega
   generalize Wd 0=a at NE2 WD;generalize H 0 w=b at NE2 HG;clear NE hp hS hT hZ hpos;go_enter Tryz.func3,Tryz.ntmps3;go_wp2_with(first|(go_at_call 7;refine NE2.out.mono ?_;rintro e U1 ⟨rfl,HB1⟩)|(go_at_call 8;refine(RP2.out _).mono ?_;rintro e U2 ⟨g,cap,rfl,HN2,HB2⟩)|(go_at_call 9;refine(NM.out _ _).mono ?_;rintro e U3 ⟨rfl,h3⟩;obtain rfl:=h3.symm)|(go_at_call 10;refine(WD.out _ _ _ HN2.out).mono ?_;rintro e U4 ⟨rfl,HB4⟩;have HN4:=qH<|HN2.out.below HB4.out)|(go_at_call 11;refine(HG.out _ _ _ HN4.out).mono ?_;rintro e U5 ⟨rfl,HB5⟩));all_goals go_ret;have b2:=HB1.out.trans (HB2.out.mono HB1.out.size);have b4:=b2.trans (HB4.out.mono b2.size);exact⟨by simp,b4.trans (HB5.out.mono b4.size)⟩
  ·have NE2:Hid (Calls Tryz.prog 7 #[.string s,.int .i64 w] W fun e U'=>e=.returned (.tuple #[.int .i64 0,.int .i64 0,.int .i64 6,.int .i64 0])∧Hid (Below W.heap.size W U')):=NE.mono fun e U' q=>by
    rcases q.2 with⟨_,h⟩|⟨h,_⟩;·exact⟨h,q.1⟩
    ·exact absurd h hw
   have RP2:Hid (∀U,Calls Tryz.prog 8 #[.string s] U fun e w'=>∃nv,e=.returned (.tuple #[nv,.int .i64 0,.int .i64 0])∧Hid (Below U.heap.size U w')):=fun U=>(rparse_any s U).mono fun e w' q=>by rw[parse_of_ok hp]at q;obtain⟨h1,nv,AV,KV,h2,h3⟩:=q;exact⟨nv,h2,h1⟩
   have hw2:w<0∨(¬w<0∧400<w):=by omega
   clear NE hp hS hT hZ hpos hw;rcases hw2 with d0|⟨d0,d4⟩;all_goals go_enter Tryz.func3,Tryz.ntmps3;go_wp2_with(first|(go_at_call 7;refine NE2.out.mono ?_;rintro e U1 ⟨rfl,HB1⟩)|(go_at_call 8;refine(RP2.out _).mono ?_;rintro e U2 ⟨nv,rfl,HB2⟩)|(go_at_call 9;refine(NM.out _ _).mono ?_;rintro e U3 ⟨rfl,h3⟩;obtain rfl:=h3.symm));all_goals go_ret;exact⟨by simp,HB1.out.trans (HB2.out.mono HB1.out.size)⟩
end
end Go.Proofs.YtnponhbgicbkcaaGreatDoor
