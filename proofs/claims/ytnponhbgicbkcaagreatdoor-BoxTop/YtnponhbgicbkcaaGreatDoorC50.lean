import Derived.Test.YtnponhbgicbkcaaGreatDoorC49
import Derived.Test.YtnponhbgicbkcaaGreatDoorC34
import Derived.Test.YtnponhbgicbkcaaGreatDoorC47
import Derived.Test.YtnponhbgicbkcaaGreatDoorC32
import Derived.Test.YtnponhbgicbkcaaGreatDoorC48
import Derived.Test.YtnponhbgicbkcaaGreatDoorC19
set_option linter.unusedVariables false
set_option maxRecDepth 100000
set_option maxHeartbeats 16000000
namespace Go.Proofs.YtnponhbgicbkcaaGreatDoor
section
open Go.RowKit Go.Sort
def zvf(U U':World)(w h:Int)(idf off:Nat->Int)(sn:Nat)(r:Except (Option (Nat×Nat)) (List Nd))(e:Ending):Prop:=Below U.heap.size U U'∧match r with
 | .error x=>e=.returned (.tuple #[.slice none 0 0,.int .i64 (errC x:Int),.int .i64 (errP x:Int)])
 | .ok L=>(¬(1≤w∧w≤400∧1≤h∧h≤400)∧e=.returned (.tuple #[.slice none 0 0,.int .i64 6,.int .i64 0]))∨((1≤w∧w≤400∧1≤h∧h≤400)∧∃pb P Wd H,Sz L Wd H∧e=.returned (.tuple #[.slice (some ⟨pb,0,none⟩) L.length L.length,.int .i64 0,.int .i64 0])∧U'.rowIs pb 50 (L.length*10) (pcF P)∧PlTo L Wd H w h idf off sn P L.length∧U.heap.size≤pb)
def LyAt(U U':World)(w h:Int)(idf off:Nat->Int)(sn:Nat)(Wd:Nat->Int)(H:Nat->Int->Int)(r:Except (Option (Nat×Nat)) (List Nd))(e:Ending):Prop:=Below U.heap.size U U'∧match r with
 | .error x=>e=.returned (.tuple #[.slice none 0 0,.int .i64 (errC x:Int),.int .i64 (errP x:Int)])
 | .ok L=>(¬(1≤w∧w≤400∧1≤h∧h≤400)∧e=.returned (.tuple #[.slice none 0 0,.int .i64 6,.int .i64 0]))∨((1≤w∧w≤400∧1≤h∧h≤400)∧∃pb P,e=.returned (.tuple #[.slice (some ⟨pb,0,none⟩) L.length L.length,.int .i64 0,.int .i64 0])∧U'.rowIs pb 50 (L.length*10) (pcF P)∧PlTo L Wd H w h idf off sn P L.length∧U.heap.size≤pb)
theorem zfs(t:ByteArray):∃Wd H,∀L,z0s t=.ok L->Sz L Wd H:=by
 cases hp:z0s t with
 | error x=>exact⟨fun _=>0,fun _ _=>0,fun L q=>by cases q⟩
 | ok L =>
  obtain⟨Wd,H,hS⟩:=zvx (z3c (z23 hp)).nest
  exact⟨Wd,H,fun L' q=>by cases q;exact hS⟩
theorem z9c(t:ByteArray)(w h:Int)(sp:Option Addr)(sn sc:Nat)(idf off:Nat->Int)(E:Nat->Addr)(U:World)(hG:Glo U E)(hA:z34 U E)(hE:ErT U)(ht:z0y U)(hsc:Scr U sp sn idf off)(hsn:sn≤4611686018427387904)(hsp:∀a:Addr,sp=some a->a.block<U.heap.size)(Wd:Nat->Int)(H:Nat->Int->Int)(hSz:∀L,z0s t=.ok L->Sz L Wd H) :
 Calls Tryz.prog 13 #[.string t,.int .i64 w,.int .i64 h,.slice sp sn sc] U fun e U'=>LyAt U U' w h idf off sn Wd H (z0s t) e:=by
 have HSz:Hid (∀L,z0s t=.ok L->Sz L Wd H):=hSz
 clear hSz
 have TP:Hid (Calls Tryz.prog 21 #[.string t] U fun e w'=>zrb U w' e (z0s t)):=zb9 t E U hG hA hE
 have SD:Hid (∀n u,Calls Tryz.prog 35 #[.int .i64 n] u fun e w'=>e=.returned (.bool (decide (1≤n∧n≤400)))∧w'=u):=zii
 have HT:Hid (z0y U∧Scr U sp sn idf off):=⟨ht,hsc⟩
 clear hG hA hE ht hsc
 go_enter Tryz.func13,Tryz.ntmps13
 go_wp2_with fail
 refine TP.out.mono ?_
 rintro e U1 ⟨hb1,hr⟩
 have HB1:Hid (Below U.heap.size U U1):=hb1
 clear hb1 TP
 cases hp:z0s t with
 | error x =>
  rw[hp] at hr
  subst hr
  have hx:(errC x:Int)≠0:=by have:=z90 hp;omega
  have hx2:((errC x:Int) != 0)=true:=by simpa using hx
  have HPP:Hid (z0s t=.error x):=hp
  obtain⟨c,hc⟩:∃z:Int,(errC x:Int)=z:=⟨_,rfl⟩
  have HCE:Hid ((errC x:Int)=c):=hc
  rw[hc] at hx hx2 ⊢
  clear hp hc
  go_wp2
  refine bodyPost_ret (results_tmp3 rfl _ _ _) rfl ?_
  rw[HPP.out]
  exact⟨HB1.out,by show _=_;rw[HCE.out];rfl⟩
 | ok L =>
  rw[hp] at hr
  obtain⟨nv,KV,rfl,hn⟩:=hr
  have hT:Tree t L:=z3c (z23 hp)
  have hS:=HSz.out L hp
  have hpos:=hT.pos
  obtain⟨g,cap,rfl⟩:∃g cap,nv=.slice (some ⟨g,0,none⟩) L.length cap:=by
   obtain⟨xs,hx⟩:=hn.nr.row
   rcases z2q hx with ⟨_,h0⟩|⟨g,cap,e,_⟩
   ·omega
   ·exact⟨g,cap,e⟩
  have HN:Hid (PN U1 U.heap.size (.slice (some ⟨g,0,none⟩) L.length cap) L KV):=hn
  have HPP:Hid (z0s t=.ok L):=hp
  clear hn hp
  by_cases hw:1≤w∧w≤400
  ·by_cases hh:1≤h∧h≤400
   ·have S1:Hid (∀u,Calls Tryz.prog 35 #[.int .i64 w] u fun e w'=>e=.returned (.bool true)∧w'=u):=fun u=>by have:=SD.out w u;rw[decide_eq_true hw] at this;exact this
    have S2:Hid (∀u,Calls Tryz.prog 35 #[.int .i64 h] u fun e w'=>e=.returned (.bool true)∧w'=u):=fun u=>by have:=SD.out h u;rw[decide_eq_true hh] at this;exact this
    have NM:Hid (Calls Tryz.prog 22 #[.slice (some ⟨g,0,none⟩) L.length cap] U1 fun e u'=>∃mb r wb,e=.returned (.pointer (some ⟨mb,0,none⟩))∧Hid (Below U1.heap.size U1 u'∧Hs u' mb r g cap wb L KV Wd H 0∧U1.heap.size≤r)):=by
     refine (zag g cap hT hS U1 _ HN.out (HT.out.1.below HB1.out)).mono ?_
     rintro e u' ⟨mb,r,wb,h1,h2,h3,h4⟩
     exact⟨mb,r,wb,h1,h2,h3,h4⟩
    have PL:Hid (∀u mb r wb,Below U1.heap.size U1 u->Hs u mb r g cap wb L KV Wd H 0->Calls Tryz.prog 36 #[.pointer (some ⟨mb,0,none⟩),.int .i64 w,.int .i64 h,.slice sp sn sc] u fun e u'=>∃pb,e=.returned (.slice (some ⟨pb,0,none⟩) L.length L.length)∧Hid (∃P,u'.rowIs pb 50 (L.length*10) (pcF P)∧PlTo L Wd H w h idf off sn P L.length∧u.grownBy u' (some r)∧u.heap.size≤pb)):=fun u mb r wb hu hHs=>by
     have hbu:=HB1.out.trans (hu.mono HB1.out.size)
     refine (zj0 mb r g cap wb hT hS w h sp sn sc idf off u hHs hw hh (HT.out.2.below hbu) hsn (fun a e=>Nat.lt_of_lt_of_le (hsp a e) hbu.size)).mono ?_
     rintro e u' ⟨pb,P,h1,h2,h3,h4,h5⟩
     exact⟨pb,h1,P,h2,h3,h4,h5⟩
    clear SD HT
    go_wp2_with (first|(go_at_call 35;(with_reducible refine Calls.mono (S1.out _) ?_);rintro e u5 ⟨rfl,h5⟩;obtain rfl:=h5.symm)|(go_at_call 35;(with_reducible refine Calls.mono (S2.out _) ?_);rintro e u5 ⟨rfl,h5⟩;obtain rfl:=h5.symm)|(go_at_call 22;refine Calls.mono NM.out ?_;rintro e u6 ⟨mb,r,wb,rfl,HH⟩)|(go_at_call 36;refine Calls.mono (PL.out _ _ _ _ HH.out.1 HH.out.2.1) ?_;rintro e u7 ⟨pb,rfl,HZ⟩))
    all_goals
     refine bodyPost_ret (results_tmp3 rfl _ _ _) rfl ?_
     rw[HPP.out]
     obtain⟨P,z1,z2,z3,z4⟩:=HZ.out
     obtain⟨q1,q2,q3⟩:=HH.out
     have hb1:=HB1.out
     have hb6:=hb1.trans (q1.mono hb1.size)
     have hle:=hb1.size
     have hle6:=hb6.size
     refine⟨hb6.grown z3 hle6 (fun k hk=>by injection hk with hk;omega),?_⟩
     exact .inr ⟨⟨hw.1,hw.2,hh.1,hh.2⟩,pb,P,rfl,z1,z2,by omega⟩
   ·have S1:Hid (∀u,Calls Tryz.prog 35 #[.int .i64 w] u fun e w'=>e=.returned (.bool true)∧w'=u):=fun u=>by have:=SD.out w u;rw[decide_eq_true hw] at this;exact this
    have S2:Hid (∀u,Calls Tryz.prog 35 #[.int .i64 h] u fun e w'=>e=.returned (.bool false)∧w'=u):=fun u=>by have:=SD.out h u;rw[decide_eq_false hh] at this;exact this
    clear SD HT HN
    go_wp2_with (first|(go_at_call 35;(with_reducible refine Calls.mono (S1.out _) ?_);rintro e u5 ⟨rfl,h5⟩;obtain rfl:=h5.symm)|(go_at_call 35;(with_reducible refine Calls.mono (S2.out _) ?_);rintro e u5 ⟨rfl,h5⟩;obtain rfl:=h5.symm))
    all_goals
     refine bodyPost_ret (results_tmp3 rfl _ _ _) rfl ?_
     rw[HPP.out]
     exact⟨HB1.out,.inl ⟨fun q=>hh ⟨q.2.2.1,q.2.2.2⟩,rfl⟩⟩
  ·have S1:Hid (∀u,Calls Tryz.prog 35 #[.int .i64 w] u fun e w'=>e=.returned (.bool false)∧w'=u):=fun u=>by have:=SD.out w u;rw[decide_eq_false hw] at this;exact this
   clear SD HT HN
   go_wp2_with (go_at_call 35;refine Calls.mono (S1.out _) ?_;rintro e u5 ⟨rfl,h5⟩;obtain rfl:=h5.symm)
   all_goals
    refine bodyPost_ret (results_tmp3 rfl _ _ _) rfl ?_
    rw[HPP.out]
    exact⟨HB1.out,.inl ⟨fun q=>hw ⟨q.1,q.2.1⟩,rfl⟩⟩
end
section
open Go.RowKit Go.Sort
theorem zgx(n:Int)(w:World):Calls Tryz.prog 9 #[.int .i64 n] w fun e w'=>e=.returned (.int .i64 n)∧w'=w:=by
 go_enter Tryz.func9,Tryz.ntmps9
 go_wp2
 go_ret
 exact⟨rfl,rfl⟩
def z3h(t:ByteArray)(w h:Int):Prop:=∃L,z0s t=.ok L∧1≤w∧w≤400∧1≤h∧h≤400
def z6z(t:ByteArray)(w h:Int):Bool:=match z0s t with
 | .ok _=>decide (1≤w∧w≤400∧1≤h∧h≤400)
 | .error _=>false
theorem zb3{t:ByteArray}{w h:Int}(q:z3h t w h):z6z t w h=true:=by
 obtain⟨L,hp,q⟩:=q
 unfold z6z
 rw[hp]
 exact decide_eq_true q
theorem z9u{t:ByteArray}{w h:Int}(q:¬z3h t w h):z6z t w h=false:=by
 unfold z6z
 cases hp:z0s t with
 | error x=>rfl
 | ok L=>exact decide_eq_false (fun z=>q ⟨L,hp,z⟩)
theorem zmt(t:ByteArray)(w h:Int)(U:World):Calls Tryz.prog 18 #[.string t,.int .i64 w,.int .i64 h] U fun e U'=>e=.returned (.bool (z6z t w h))∧Below U.heap.size U U':=by
 have RP:Hid (Calls Tryz.prog 8 #[.string t] U fun e w'=>zeh U w' e (z3p t)):=zj8 t U
 cases hp:z0s t with
 | error x =>
  have hx:(errC x:Int)≠0:=by have:=z90 hp;omega
  have HF:Hid (z6z t w h=false):=z9u (fun ⟨L,q,_⟩=>by rw[hp] at q;cases q)
  rw[ze1 hp] at RP
  obtain⟨c,hc⟩:∃z:Int,(errC x:Int)=z:=⟨_,rfl⟩
  obtain⟨d,hd⟩:∃z:Int,(errP x:Int)=z:=⟨_,rfl⟩
  have RP2:Hid (Calls Tryz.prog 8 #[.string t] U fun e w'=>e=.returned (.tuple #[.slice none 0 0,.int .i64 c,.int .i64 d])∧Hid (Below U.heap.size U w')):=RP.out.mono fun e w' q=>⟨by have:=q.2;dsimp only at this;rw[hc,hd] at this;exact this,q.1⟩
  rw[hc] at hx
  clear RP hp hc hd
  go_enter Tryz.func18,Tryz.ntmps18
  go_wp2_with (go_at_call 8;refine RP2.out.mono ?_;rintro e U1 ⟨rfl,HB⟩)
  all_goals
   go_ret
   exact⟨by rw[HF.out];rfl,HB.out⟩
 | ok L =>
  rw[z23 hp] at RP
  have HY:Hid ((1≤w∧w≤400∧1≤h∧h≤400)->z6z t w h=true):=fun q=>zb3 ⟨L,hp,q⟩
  have HN:Hid (¬(1≤w∧w≤400∧1≤h∧h≤400)->z6z t w h=false):=fun q=>z9u (fun ⟨_,_,z⟩=>q z)
  have RP2:Hid (Calls Tryz.prog 8 #[.string t] U fun e w'=>∃nv,e=.returned (.tuple #[nv,.int .i64 0,.int .i64 0])∧Hid (Below U.heap.size U w')):=RP.out.mono fun e w' q=>by
   obtain⟨h1,nv,_,_,h2,_⟩:=q
   exact⟨nv,h2,h1⟩
  clear RP hp
  go_enter Tryz.func18,Tryz.ntmps18
  go_wp2_with (go_at_call 8;refine RP2.out.mono ?_;rintro e U1 ⟨nv,rfl,HB⟩;by_cases h1:1≤w;by_cases h2:w≤400;by_cases h3:1≤h;by_cases h4:h≤400)
  all_goals
   go_ret
   first
    | exact⟨by rw[HY.out (by omega)];rfl,HB.out⟩
    | exact⟨by rw[HN.out (by omega)];rfl,HB.out⟩
    | exact⟨by rw[HY.out (by omega)];exact congrArg (fun z=>Ending.returned (Value.bool z)) (decide_eq_true (by omega)),HB.out⟩
    | exact⟨by rw[HN.out (by omega)];exact congrArg (fun z=>Ending.returned (Value.bool z)) (decide_eq_false (by omega)),HB.out⟩
end
section
open Go.RowKit Go.Sort
def zve(U U':World)(t:ByteArray)(w h:Int)(idf off:Nat->Int)(sn:Nat)(e:Ending):Prop:=Below U.heap.size U U'∧((¬z3h t w h∧∃a b,e=.returned (.tuple #[a,b,.bool false]))∨(z3h t w h∧∃L g cap KV pb P Wd H,z0s t=.ok L∧Sz L Wd H∧e=.returned (.tuple #[.slice (some ⟨g,0,none⟩) L.length cap,.slice (some ⟨pb,0,none⟩) L.length L.length,.bool true])∧PN U' U.heap.size (.slice (some ⟨g,0,none⟩) L.length cap) L KV∧U'.rowIs pb 50 (L.length*10) (pcF P)∧PlTo L Wd H w h idf off sn P L.length))
def LdAt(U U':World)(t:ByteArray)(w h:Int)(idf off:Nat->Int)(sn:Nat)(Wd:Nat->Int)(H:Nat->Int->Int)(e:Ending):Prop:=Below U.heap.size U U'∧((¬z3h t w h∧∃a b,e=.returned (.tuple #[a,b,.bool false]))∨(z3h t w h∧∃L g cap KV pb P,z0s t=.ok L∧e=.returned (.tuple #[.slice (some ⟨g,0,none⟩) L.length cap,.slice (some ⟨pb,0,none⟩) L.length L.length,.bool true])∧PN U' U.heap.size (.slice (some ⟨g,0,none⟩) L.length cap) L KV∧U'.rowIs pb 50 (L.length*10) (pcF P)∧PlTo L Wd H w h idf off sn P L.length))
theorem zlz(t:ByteArray)(w h:Int)(sp:Option Addr)(sn sc:Nat)(idf off:Nat->Int)(E:Nat->Addr)(U:World)(hG:Glo U E)(hA:z34 U E)(hE:ErT U)(ht:z0y U)(hsc:Scr U sp sn idf off)(hsn:sn≤8796093022208)(Wd:Nat->Int)(H:Nat->Int->Int)(hSz:∀L,z0s t=.ok L->Sz L Wd H) :
 Calls Tryz.prog 19 #[.string t,.int .i64 w,.int .i64 h,.slice sp sn sc] U fun e U'=>LdAt U U' t w h idf off sn Wd H e:=by
 have TP:Hid (Calls Tryz.prog 21 #[.string t] U fun e w'=>zrb U w' e (z0s t)):=zb9 t E U hG hA hE
 have NU:Hid (∀n u,Calls Tryz.prog 9 #[.int .i64 n] u fun e w'=>e=.returned (.int .i64 n)∧w'=u):=zgx
 have SC:Hid (∀u,Below U.heap.size U u->Calls Tryz.prog 12 #[.slice sp sn sc] u fun e u'=>∃p c,e=.returned (.slice p sn c)∧Hid (Scr u' p sn idf off∧(∀a:Addr,p=some a->a.block<u'.heap.size)∧Below u.heap.size u u')):=fun u hu=>(z9z sp sn sc idf off u (hsc.below hu) hsn).mono (by
  rintro e u' ⟨p,c,h1,h2,h3,h4⟩
  exact⟨p,c,h1,h2,fun a e=>(h3 a e).2,h4⟩)
 have LY:Hid (∀u p c,Below U.heap.size U u->Scr u p sn idf off->(∀a:Addr,p=some a->a.block<u.heap.size)->Calls Tryz.prog 13 #[.string t,.int .i64 w,.int .i64 h,.slice p sn c] u fun e u'=>LyAt u u' w h idf off sn Wd H (z0s t) e):=fun u p c hu h1 h2=>z9c t w h p sn c idf off E u (hG.cells hu) (hA.below hu) (hE.below hu) (ht.below hu) h1 (by omega) h2 Wd H hSz
 clear hG hA hE ht hsc hSz
 cases hp:z0s t with
 | error x =>
  rw[hp] at TP LY
  have hx:(errC x:Int)≠0:=by have:=z90 hp;omega
  have HF:Hid (¬z3h t w h):=fun ⟨L,q,_⟩=>by rw[hp] at q;cases q
  obtain⟨c,hc⟩:∃z:Int,(errC x:Int)=z:=⟨_,rfl⟩
  obtain⟨d,hd⟩:∃z:Int,(errP x:Int)=z:=⟨_,rfl⟩
  have TP2:Hid (Calls Tryz.prog 21 #[.string t] U fun e w'=>e=.returned (.tuple #[.slice none 0 0,.int .i64 c,.int .i64 d])∧Hid (Below U.heap.size U w')):=TP.out.mono fun e w' q=>⟨by have:=q.2;dsimp only at this;rw[hc,hd] at this;exact this,q.1⟩
  have LY2:Hid (∀u p cc,Below U.heap.size U u->Scr u p sn idf off->(∀a:Addr,p=some a->a.block<u.heap.size)->Calls Tryz.prog 13 #[.string t,.int .i64 w,.int .i64 h,.slice p sn cc] u fun e u'=>e=.returned (.tuple #[.slice none 0 0,.int .i64 c,.int .i64 d])∧Hid (Below u.heap.size u u')):=fun u p cc a1 a2 a3=>(LY.out u p cc a1 a2 a3).mono fun e w' q=>⟨by have:=q.2;dsimp only at this;rw[hc,hd] at this;exact this,q.1⟩
  rw[hc] at hx
  clear TP LY hp hc hd
  go_enter Tryz.func19,Tryz.ntmps19
  go_wp2_with (first|(go_at_call 21;refine TP2.out.mono ?_;rintro e U1 ⟨rfl,HB1⟩)|(go_at_call 12;refine (SC.out _ HB1.out).mono ?_;rintro e U2 ⟨p2,c2,rfl,HB2⟩)|(go_at_call 13;refine (LY2.out _ _ _ (HB1.out.trans (HB2.out.2.2.mono HB1.out.size)) HB2.out.1 HB2.out.2.1).mono ?_;rintro e U3 ⟨rfl,HB3⟩)|(go_at_call 9;(with_reducible refine Calls.mono (NU.out _ _) ?_);rintro e u5 ⟨rfl,h5⟩;obtain rfl:=h5.symm))
  all_goals
   refine bodyPost_ret (results_tmp3 rfl _ _ _) rfl ?_
   have b2:=HB1.out.trans (HB2.out.2.2.mono HB1.out.size)
   exact⟨b2.trans (HB3.out.mono b2.size),.inl ⟨HF.out,_,_,rfl⟩⟩
 | ok L =>
  rw[hp] at TP LY
  have hT:Tree t L:=z3c (z23 hp)
  have hpos:=hT.pos
  have hpos':(0:Int)<(L.length:Int):=by omega
  have HPP:Hid (z0s t=.ok L):=hp
  have TP2:Hid (Calls Tryz.prog 21 #[.string t] U fun e w'=>∃g cap KV,e=.returned (.tuple #[.slice (some ⟨g,0,none⟩) L.length cap,.int .i64 0,.int .i64 0])∧Hid (PN w' U.heap.size (.slice (some ⟨g,0,none⟩) L.length cap) L KV)∧Hid (Below U.heap.size U w')):=TP.out.mono fun e w' q=>by
   obtain⟨hb,nv,KV,rfl,hn⟩:=q
   obtain⟨g,cap,rfl⟩:∃g cap,nv=.slice (some ⟨g,0,none⟩) L.length cap:=by
    obtain⟨xs,hx⟩:=hn.nr.row
    rcases z2q hx with ⟨_,h0⟩|⟨g,cap,e,_⟩
    ·omega
    ·exact⟨g,cap,e⟩
   exact⟨g,cap,KV,rfl,hn,hb⟩
  by_cases hr:1≤w∧w≤400∧1≤h∧h≤400
  ·have HF:Hid (z3h t w h):=⟨L,hp,hr⟩
   have LY2:Hid (∀u p cc,Below U.heap.size U u->Scr u p sn idf off->(∀a:Addr,p=some a->a.block<u.heap.size)->Calls Tryz.prog 13 #[.string t,.int .i64 w,.int .i64 h,.slice p sn cc] u fun e u'=>∃pb,e=.returned (.tuple #[.slice (some ⟨pb,0,none⟩) L.length L.length,.int .i64 0,.int .i64 0])∧Hid (Below u.heap.size u u'∧∃P,u'.rowIs pb 50 (L.length*10) (pcF P)∧PlTo L Wd H w h idf off sn P L.length)):=fun u p cc a1 a2 a3=>(LY.out u p cc a1 a2 a3).mono fun e w' q=>by
    obtain⟨hb,q⟩:=q
    rcases q with ⟨q,_⟩|⟨_,pb,P,q2,q3,q4,_⟩
    ·exact absurd hr q
    ·exact⟨pb,q2,hb,P,q3,q4⟩
   clear TP LY hp hr
   go_enter Tryz.func19,Tryz.ntmps19
   go_wp2_with (first|(go_at_call 21;refine TP2.out.mono ?_;rintro e U1 ⟨g,cap,KV,rfl,HPN,HB1⟩)|(go_at_call 12;refine (SC.out _ HB1.out).mono ?_;rintro e U2 ⟨p2,c2,rfl,HB2⟩)|(go_at_call 13;refine (LY2.out _ _ _ (HB1.out.trans (HB2.out.2.2.mono HB1.out.size)) HB2.out.1 HB2.out.2.1).mono ?_;rintro e U3 ⟨pb,rfl,HB3⟩)|(go_at_call 9;(with_reducible refine Calls.mono (NU.out _ _) ?_);rintro e u5 ⟨rfl,h5⟩;obtain rfl:=h5.symm))
   all_goals
    refine bodyPost_ret (results_tmp3 rfl _ _ _) rfl ?_
    have b2:=HB1.out.trans (HB2.out.2.2.mono HB1.out.size)
    obtain⟨b3,P,z2,z3⟩:=HB3.out
    have hn:=(HPN.out.up (Up.below HB2.out.2.2)).up (Up.below b3)
    exact⟨b2.trans (b3.mono b2.size),.inr ⟨HF.out,L,g,cap,KV,pb,P,HPP.out,by simp,hn,z2,z3⟩⟩
  ·have HF:Hid (¬z3h t w h):=fun ⟨_,_,q⟩=>hr q
   have LY2:Hid (∀u p cc,Below U.heap.size U u->Scr u p sn idf off->(∀a:Addr,p=some a->a.block<u.heap.size)->Calls Tryz.prog 13 #[.string t,.int .i64 w,.int .i64 h,.slice p sn cc] u fun e u'=>e=.returned (.tuple #[.slice none 0 0,.int .i64 6,.int .i64 0])∧Hid (Below u.heap.size u u')):=fun u p cc a1 a2 a3=>(LY.out u p cc a1 a2 a3).mono fun e w' q=>by
    obtain⟨hb,q⟩:=q
    rcases q with ⟨_,q⟩|⟨q,_⟩
    ·exact⟨q,hb⟩
    ·exact absurd q hr
   clear TP LY hp hr
   go_enter Tryz.func19,Tryz.ntmps19
   go_wp2_with (first|(go_at_call 21;refine TP2.out.mono ?_;rintro e U1 ⟨g,cap,KV,rfl,HPN,HB1⟩)|(go_at_call 12;refine (SC.out _ HB1.out).mono ?_;rintro e U2 ⟨p2,c2,rfl,HB2⟩)|(go_at_call 13;refine (LY2.out _ _ _ (HB1.out.trans (HB2.out.2.2.mono HB1.out.size)) HB2.out.1 HB2.out.2.1).mono ?_;rintro e U3 ⟨rfl,HB3⟩)|(go_at_call 9;(with_reducible refine Calls.mono (NU.out _ _) ?_);rintro e u5 ⟨rfl,h5⟩;obtain rfl:=h5.symm))
   all_goals
    refine bodyPost_ret (results_tmp3 rfl _ _ _) rfl ?_
    have b2:=HB1.out.trans (HB2.out.2.2.mono HB1.out.size)
    exact⟨b2.trans (HB3.out.mono b2.size),.inl ⟨HF.out,_,_,rfl⟩⟩
theorem zgs(t:ByteArray)(w h:Int)(sp:Option Addr)(sn sc:Nat)(idf off:Nat->Int)(E:Nat->Addr)(U:World)(hG:Glo U E)(hA:z34 U E)(hE:ErT U)(ht:z0y U)(hsc:Scr U sp sn idf off)(hsn:sn≤8796093022208) :
 Calls Tryz.prog 19 #[.string t,.int .i64 w,.int .i64 h,.slice sp sn sc] U fun e U'=>zve U U' t w h idf off sn e:=by
 obtain⟨Wd,H,hS⟩:=zfs t
 refine (zlz t w h sp sn sc idf off E U hG hA hE ht hsc hsn Wd H hS).mono ?_
 rintro e U' ⟨hb,q⟩
 refine⟨hb,?_⟩
 rcases q with q|⟨q1,L,g,cap,KV,pb,P,q2,q3,q4,q5,q6⟩
 ·exact .inl q
 ·exact .inr ⟨q1,L,g,cap,KV,pb,P,Wd,H,q2,hS L q2,q3,q4,q5,q6⟩
end
section
open Go.RowKit Go.Sort
theorem zel{U U':World}(hb:Below U.heap.size U U'){a:Addr}{v:Value}(h:U.cell? a=some v):U'.cell? a=some v :=
 (World.cell?_of_block (hb.block a.block (World.block_lt_of_cell? U a h))).trans h
theorem zvv{W:World}{p:Option Addr}{idf off:Nat->Int}:Scr W p 0 idf off:=.inl rfl
structure NP(U:World)(g pb:Nat)(L:List Nd)(KV:Nat->Value)(P:Nat->Nat->Int):Prop where
 len:∀j,j<L.length->(nth L j).attr.length=12
 nd:∀j,j<L.length->∀ (t:Nat) x,(z0k (nth L j) (KV j))[t]?=some x->U.cell? ⟨g,j*16+t,none⟩=some x
 kid:∀j,j<L.length->∃p c,KV j=.slice p (nth L j).kids.length c∧((nth L j).kids.length=0∨∃b o,p=some ⟨b,o,none⟩∧∀t,t<(nth L j).kids.length->U.cell? ⟨b,o+t,none⟩=some (.int .i64 (kdn (nth L j).kids t:Int)))
 pl:∀c t,c<L.length->t<10->U.cell? ⟨pb,c*10+t,none⟩=some (.int .i64 (P c t))
theorem NP.below{U U':World}{g pb:Nat}{L:List Nd}{KV:Nat->Value}{P:Nat->Nat->Int}(h:NP U g pb L KV P)(hb:Below U.heap.size U U'):NP U' g pb L KV P:=by
 refine⟨h.len,fun j hj t x ht=>zel hb (h.nd j hj t x ht),fun j hj=>?_,fun c t hc ht=>zel hb (h.pl c t hc ht)⟩
 obtain⟨p,c,e,hk⟩:=h.kid j hj
 refine⟨p,c,e,?_⟩
 rcases hk with hk|⟨b,o,e2,hk⟩
 ·exact .inl hk
 ·exact .inr ⟨b,o,e2,fun t ht=>zel hb (hk t ht)⟩
theorem NP.of{U:World}{B g cap pb:Nat}{L:List Nd}{KV:Nat->Value}{P:Nat->Nat->Int}{T:TypeId}(h:PN U B (.slice (some ⟨g,0,none⟩) L.length cap) L KV)(hr:U.rowIs pb T (L.length*10) (pcF P)):NP U g pb L KV P:=by
 have hv:=h.ndv (r:=U.heap.size) (Nat.le_refl _)
 refine⟨hv.len,hv.nd,fun j hj=>?_,fun c t hc ht=>z0t hr hc ht⟩
 obtain⟨p,c,e,hk⟩:=hv.kid j hj
 refine⟨p,c,e,?_⟩
 rcases hk with hk|⟨b,o,e2,_,_,hk⟩
 ·exact .inl hk
 ·exact .inr ⟨b,o,e2,hk⟩
theorem NP.node{U:World}{g pb:Nat}{L:List Nd}{KV:Nat->Value}{P:Nat->Nat->Int}(h:NP U g pb L KV P){j:Nat}(hj:j<L.length) :
 U.cell? ⟨g,j*16,none⟩=some (.int .i64 (nth L j).kind)∧(∀t,t<12->U.cell? ⟨g,j*16+(t+1),none⟩=some (.int .i64 (atN (nth L j) t)))∧U.cell? ⟨g,j*16+14,none⟩=some (KV j)∧U.cell? ⟨g,j*16+15,none⟩=some (.int .i64 (nth L j).up):=by
 have hl:=z7s (h.len j hj) (KV j)
 refine⟨h.nd j hj 0 _ (by rw[hl];rfl),fun t ht=>?_,h.nd j hj 14 _ (by rw[hl];rfl),h.nd j hj 15 _ (by rw[hl];rfl)⟩
 have:t=0∨t=1∨t=2∨t=3∨t=4∨t=5∨t=6∨t=7∨t=8∨t=9∨t=10∨t=11:=by omega
 rcases this with rfl|rfl|rfl|rfl|rfl|rfl|rfl|rfl|rfl|rfl|rfl|rfl
 all_goals exact h.nd j hj _ _ (by rw[hl];rfl)
section
variable {s : ByteArray} {w h : Int}
theorem zv8(hr:z3h s w h)(sp:Option Addr)(sn sc:Nat)(idf off:Nat->Int)(E:Nat->Addr)(W:World)(hG:Glo W E)(hA:z34 W E)(hE:ErT W)(ht:z0y W)(hsc:Scr W sp sn idf off)(hsn:sn≤8796093022208)(u:World)(hu:Below W.heap.size W u) :
 Calls Tryz.prog 19 #[.string s,.int .i64 w,.int .i64 h,.slice sp sn sc] u fun e U'=>∃ (L:List Nd) (g cap pb:Nat) (KV:Nat->Value) (P:Nat->Nat->Int),e=.returned (.tuple #[.slice (some ⟨g,0,none⟩) L.length cap,.slice (some ⟨pb,0,none⟩) L.length L.length,.bool true])∧Hid (NP U' g pb L KV P)∧Hid (Tree s L∧∃Wd H,PlTo L Wd H w h idf off sn P L.length)∧Hid (Below W.heap.size W U'):=by
 refine (zgs s w h sp sn sc idf off E u (hG.cells hu) (hA.below hu) (hE.below hu) (ht.below hu) (hsc.below hu) hsn).mono ?_
 rintro e U' ⟨hb,q⟩
 rcases q with ⟨q,_⟩|⟨_,L,g,cap,KV,pb,P,Wd,H,hp,hS,rfl,hn,hr2,hP⟩
 ·exact absurd hr q
 ·exact⟨L,g,cap,pb,KV,P,rfl,NP.of hn hr2,⟨z3c (z23 hp),Wd,H,hP⟩,hu.trans (hb.mono hu.size)⟩
theorem zf6(hr:z3h s w h)(sp:Option Addr)(sn sc:Nat)(idf off:Nat->Int)(E:Nat->Addr)(W:World)(hG:Glo W E)(hA:z34 W E)(hE:ErT W)(ht:z0y W)(hsc:Scr W sp sn idf off)(hsn:sn≤8796093022208)(Wd:Nat->Int)(H:Nat->Int->Int)(hSz:∀L,z0s s=.ok L->Sz L Wd H)(u:World)(hu:Below W.heap.size W u) :
 Calls Tryz.prog 19 #[.string s,.int .i64 w,.int .i64 h,.slice sp sn sc] u fun e U'=>∃ (L:List Nd) (g cap pb:Nat) (KV:Nat->Value) (P:Nat->Nat->Int),e=.returned (.tuple #[.slice (some ⟨g,0,none⟩) L.length cap,.slice (some ⟨pb,0,none⟩) L.length L.length,.bool true])∧Hid (NP U' g pb L KV P)∧Hid (z0s s=.ok L∧Tree s L∧PlTo L Wd H w h idf off sn P L.length)∧Hid (Below W.heap.size W U'):=by
 refine (zlz s w h sp sn sc idf off E u (hG.cells hu) (hA.below hu) (hE.below hu) (ht.below hu) (hsc.below hu) hsn Wd H hSz).mono ?_
 rintro e U' ⟨hb,q⟩
 rcases q with ⟨q,_⟩|⟨_,L,g,cap,KV,pb,P,hp,rfl,hn,hr2,hP⟩
 ·exact absurd hr q
 ·exact⟨L,g,cap,pb,KV,P,rfl,NP.of hn hr2,⟨hp,z3c (z23 hp),hP⟩,hu.trans (hb.mono hu.size)⟩
theorem zsb(hr:¬z3h s w h)(sp:Option Addr)(sn sc:Nat)(idf off:Nat->Int)(E:Nat->Addr)(W:World)(hG:Glo W E)(hA:z34 W E)(hE:ErT W)(ht:z0y W)(hsc:Scr W sp sn idf off)(hsn:sn≤8796093022208)(u:World)(hu:Below W.heap.size W u) :
 Calls Tryz.prog 19 #[.string s,.int .i64 w,.int .i64 h,.slice sp sn sc] u fun e U'=>∃a b,e=.returned (.tuple #[a,b,.bool false])∧Hid (Below W.heap.size W U'):=by
 refine (zgs s w h sp sn sc idf off E u (hG.cells hu) (hA.below hu) (hE.below hu) (ht.below hu) (hsc.below hu) hsn).mono ?_
 rintro e U' ⟨hb,q⟩
 rcases q with ⟨_,a,b,rfl⟩|⟨q,_⟩
 ·exact⟨a,b,rfl,hu.trans (hb.mono hu.size)⟩
 ·exact absurd q hr
theorem z3h.sz(hr:z3h s w h):(1≤w∧w≤400)∧(1≤h∧h≤400):=by
 obtain⟨_,_,a,b,c,d⟩:=hr
 exact⟨⟨a,b⟩,c,d⟩
end
end
section
open Go.RowKit Go.Sort
def z1e(P:Nat->Nat->Int)(x y:Int)(i:Nat):Bool:=zad (P i 4) (P i 5) (P i 6) (P i 7) x y
def znp(P:Nat->Nat->Int)(n:Nat)(x y:Int)(k:Nat)(c:Int):Prop :=
 (c=0∧k<n∧z1e P x y k=true∧∀j,k<j->j<n->z1e P x y j=false)∨(c=6∧k=0∧∀j,j<n->z1e P x y j=false)
def HtAt(U U':World)(w h:Int)(idf off:Nat->Int)(sn:Nat)(Wd:Nat->Int)(H:Nat->Int->Int)(x y:Int)(r:Except (Option (Nat×Nat)) (List Nd))(e:Ending):Prop:=Below U.heap.size U U'∧match r with
 | .error q=>e=.returned (.tuple #[.int .i64 0,.int .i64 (errC q:Int),.int .i64 (errP q:Int)])
 | .ok L=>(¬(1≤w∧w≤400∧1≤h∧h≤400)∧e=.returned (.tuple #[.int .i64 0,.int .i64 6,.int .i64 0]))∨((1≤w∧w≤400∧1≤h∧h≤400)∧∃P k c,PlTo L Wd H w h idf off sn P L.length∧znp P L.length x y k c∧e=.returned (.tuple #[.int .i64 (k:Int),.int .i64 c,.int .i64 0]))
theorem zu6(t:ByteArray)(w h:Int)(sp:Option Addr)(sn sc:Nat)(idf off:Nat->Int)(x y:Int)(E:Nat->Addr)(U:World)(hG:Glo U E)(hA:z34 U E)(hE:ErT U)(ht:z0y U)(hsc:Scr U sp sn idf off)(hsn:sn≤4611686018427387904)(hsp:∀a:Addr,sp=some a->a.block<U.heap.size)(Wd:Nat->Int)(H:Nat->Int->Int)(hSz:∀L,z0s t=.ok L->Sz L Wd H) :
 Calls Tryz.prog 16 #[.string t,.int .i64 w,.int .i64 h,.slice sp sn sc,.int .i64 x,.int .i64 y] U fun e U'=>HtAt U U' w h idf off sn Wd H x y (z0s t) e:=by
 have LY:Hid (Calls Tryz.prog 13 #[.string t,.int .i64 w,.int .i64 h,.slice sp sn sc] U fun e U'=>LyAt U U' w h idf off sn Wd H (z0s t) e):=z9c t w h sp sn sc idf off E U hG hA hE ht hsc hsn hsp Wd H hSz
 clear hG hA hE ht hsc
 cases hp:z0s t with
 | error q =>
  rw[hp] at LY
  have hx:((errC q:Int) != 0)=true:=by have:=z90 hp;simp;omega
  obtain⟨c,hc⟩:∃z:Int,(errC q:Int)=z:=⟨_,rfl⟩
  obtain⟨d,hd⟩:∃z:Int,(errP q:Int)=z:=⟨_,rfl⟩
  have HCD:Hid ((errC q:Int)=c∧(errP q:Int)=d):=⟨hc,hd⟩
  have LY2:Hid (Calls Tryz.prog 13 #[.string t,.int .i64 w,.int .i64 h,.slice sp sn sc] U fun e U'=>e=.returned (.tuple #[.slice none 0 0,.int .i64 c,.int .i64 d])∧Hid (Below U.heap.size U U')):=LY.out.mono fun e w' q=>⟨by have:=q.2;dsimp only at this;rw[hc,hd] at this;exact this,q.1⟩
  rw[hc] at hx
  clear LY hp hc hd
  go_enter Tryz.func16,Tryz.ntmps16
  go_wp2_with (go_at_call 13;refine LY2.out.mono ?_;rintro e U1 ⟨rfl,HB⟩)
  refine bodyPost_ret (results_tmp3 rfl _ _ _) rfl ?_
  exact⟨HB.out,by show _=_;rw[HCD.out.1,HCD.out.2];rfl⟩
 | ok L =>
  rw[hp] at LY
  have hT:Tree t L:=z3c (z23 hp)
  have hcnt:=hT.vl.cnt
  have hpos:=hT.pos
  by_cases hr:1≤w∧w≤400∧1≤h∧h≤400
  ·have LY2:Hid (Calls Tryz.prog 13 #[.string t,.int .i64 w,.int .i64 h,.slice sp sn sc] U fun e U'=>∃pb,e=.returned (.tuple #[.slice (some ⟨pb,0,none⟩) L.length L.length,.int .i64 0,.int .i64 0])∧Hid (Below U.heap.size U U'∧∃P,U'.rowIs pb 50 (L.length*10) (pcF P)∧PlTo L Wd H w h idf off sn P L.length)):=LY.out.mono fun e w' q=>by
    obtain⟨hb,q⟩:=q
    rcases q with ⟨q,_⟩|⟨_,pb,P,q2,q3,q4,_⟩
    ·exact absurd hr q
    ·exact⟨pb,q2,hb,P,q3,q4⟩
   have HR:Hid (1≤w∧w≤400∧1≤h∧h≤400):=hr
   obtain⟨N,hN⟩:∃z,L.length=z:=⟨_,rfl⟩
   have HN:Hid (L.length=N):=hN
   rw[hN] at hcnt hpos LY2
   clear LY hp hr hT hN
   go_enter Tryz.func16,Tryz.ntmps16
   go_wp2_with (go_at_call 13;refine LY2.out.mono ?_;rintro e U1 ⟨pb,rfl,HL⟩)
   obtain⟨P,HP⟩:∃P,Hid (Below U.heap.size U U1∧U1.rowIs pb 50 (N*10) (pcF P)∧PlTo L Wd H w h idf off sn P N):=by
    obtain⟨a,P,b,c⟩:=HL.out
    exact⟨P,a,b,c⟩
   clear HL LY2
   go_loopw [18] (fun iv wr=>∃m:Nat,m≤N∧iv=.int .i64 ((m:Int) - 1)∧Hid (∀j,m≤j->j<N->z1e P x y j=false)∧Hid (Below U1.heap.size U1 wr)) (fun iv _=>(intOf iv+1).toNat)
   case atStart=>exact⟨N,Nat.le_refl _,rfl,fun j h1 h2=>by omega,Below.refl _ _⟩
   case round =>
    obtain⟨m,hm,rfl,HF,HB⟩:=hrel
    by_cases h0:m=0
    ·subst h0
     have e1:decide (0≤((0:Nat):Int) - 1)=false:=rfl
     go_wp2
     refine bodyPost_ret (results_tmp3 rfl _ _ _) rfl ?_
     obtain⟨a,b,c⟩:=HP.out
     refine⟨a.trans (HB.out.mono a.size),.inr ⟨HR.out,P,0,6,by rw[HN.out];exact c,.inr ⟨rfl,rfl,fun j hj=>HF.out j (by omega) (by have:=HN.out;omega)⟩,rfl⟩⟩
    ·obtain⟨i,rfl⟩:∃i,m=i+1:=⟨m - 1,by omega⟩
     have ei:((i+1:Nat):Int) - 1=(i:Int):=by omega
     rw[ei]
     have hi0:(0:Int)≤(i:Int):=by omega
     have hiN:(i:Int)<(N:Int):=by omega
     have hcell:∀t,t<10->wr.cell? ⟨pb,i*10+t,none⟩=some (.int .i64 (P i t)):=fun t ht=>by
      have:=z0t HP.out.2.1 (c:=i) (t:=t) (by omega) ht
      exact (World.cell?_of_block (HB.out.block pb (World.block_lt_of_cell? U1 _ this))).trans this
     have y4:=hcell 4 (by omega)
     have y5:=hcell 5 (by omega)
     have y6:=hcell 6 (by omega)
     have y7:=hcell 7 (by omega)
     have HO:Hid (∀u,Calls Tryz.prog 20 #[.agg #[.int .i64 (P i 4),.int .i64 (P i 5),.int .i64 (P i 6),.int .i64 (P i 7)],.int .i64 x,.int .i64 y] u fun e u'=>e=.returned (.bool (z1e P x y i))∧Hid (Below u.heap.size u u')):=fun u=>(zdd (P i 4) (P i 5) (P i 6) (P i 7) x y u).mono fun e u' q=>⟨q.1,q.2.below⟩
     obtain⟨bb,hbb⟩:∃z,z1e P x y i=z:=⟨_,rfl⟩
     rw[hbb] at HO
     have HBB:Hid (z1e P x y i=bb):=hbb
     generalize P i 4=c4 at y4 HO
     generalize P i 5=c5 at y5 HO
     generalize P i 6=c6 at y6 HO
     generalize P i 7=c7 at y7 HO
     clear hcell hbb ei
     cases bb with
     | true =>
      go_wp2_with (go_at_call 20;refine (HO.out _).mono ?_;rintro e u2 ⟨rfl,HB2⟩)
      refine bodyPost_ret (results_tmp3 rfl _ _ _) rfl ?_
      obtain⟨a,b,c⟩:=HP.out
      have hb1:=a.trans (HB.out.mono a.size)
      exact⟨hb1.trans (HB2.out.mono hb1.size),.inr ⟨HR.out,P,i,0,by rw[HN.out];exact c,.inl ⟨rfl,by have:=HN.out;omega,HBB.out,fun j h1 h2=>HF.out j (by omega) (by have:=HN.out;omega)⟩,rfl⟩⟩
     | false =>
      have HF2:Hid (∀j,i≤j->j<N->z1e P x y j=false):=fun j h1 h2=>by
       by_cases e:j=i
       ·rw[e];exact HBB.out
       ·exact HF.out j (by omega) h2
      go_wp2_with (go_at_call 20;refine (HO.out _).mono ?_;rintro e u2 ⟨rfl,HB2⟩)
      go_roundw
      case rel=>exact⟨i,by omega,by go_num,HF2.out,HB.out.trans (HB2.out.mono HB.out.size)⟩
      case measure=>simp[intOf]
  ·have LY2:Hid (Calls Tryz.prog 13 #[.string t,.int .i64 w,.int .i64 h,.slice sp sn sc] U fun e U'=>e=.returned (.tuple #[.slice none 0 0,.int .i64 6,.int .i64 0])∧Hid (Below U.heap.size U U')):=LY.out.mono fun e w' q=>by
    obtain⟨hb,q⟩:=q
    rcases q with ⟨_,q⟩|⟨q,_⟩
    ·exact⟨q,hb⟩
    ·exact absurd q hr
   have HR:Hid (¬(1≤w∧w≤400∧1≤h∧h≤400)):=hr
   clear LY hp hr
   go_enter Tryz.func16,Tryz.ntmps16
   go_wp2_with (go_at_call 13;refine LY2.out.mono ?_;rintro e U1 ⟨rfl,HB⟩)
   refine bodyPost_ret (results_tmp3 rfl _ _ _) rfl ?_
   exact⟨HB.out,.inl ⟨HR.out,rfl⟩⟩
end
section
open Go.RowKit Go.Sort
section
variable {s : ByteArray} {L : List Nd} {Wd : Nat -> Int} {H : Nat -> Int -> Int} {w h : Int} {idf off : Nat -> Int} {sn : Nat} {P Q : Nat -> Nat -> Int} {x y : Int}
theorem PlTo.has0(hp:PlTo L Wd H w h idf off sn P L.length)(hw:1≤w∧w≤400)(hh:1≤h∧h≤400)(hx:0≤x∧x<w)(hy:0≤y∧y<h):z1e P x y 0=true:=by
 obtain⟨r0,r1,r2,r3,r4,r5,r6,r7⟩:=hp.root
 unfold z1e
 rw[r4,r5,r6,r7]
 refine zdc ?_
 unfold posI lenI
 omega
theorem PlTo.hasno(hT:Tree s L)(hp:PlTo L Wd H w h idf off sn P L.length)(hw:1≤w∧w≤400)(hh:1≤h∧h≤400)(hx:¬(0≤x∧x<w∧0≤y∧y<h)){i:Nat}(hi:i<L.length):z1e P x y i=false:=by
 have ho:=hp.onScr hT hw hh (i+1) i (by omega) hi
 unfold znq at ho
 unfold z1e
 refine zgj ?_
 unfold posI lenI
 omega
theorem PlTo.hitIs(hT:Tree s L)(hp:PlTo L Wd H w h idf off sn P L.length)(hq:PlTo L Wd H w h idf off sn Q L.length){k:Nat}{c:Int}(hh:znp Q L.length x y k c):znp P L.length x y k c:=by
 have key:∀i,i<L.length->z1e Q x y i=z1e P x y i:=fun i hi=>by
  have hu:=PlTo.uniq hT hq hp (i+1) i (by omega) hi
  unfold z1e
  rw[hu 4 (by omega),hu 5 (by omega),hu 6 (by omega),hu 7 (by omega)]
 rcases hh with ⟨h1,h2,h3,h4⟩|⟨h1,h2,h3⟩
 ·exact .inl ⟨h1,h2,by rw[<-key k h2];exact h3,fun j a b=>by rw[<-key j b];exact h4 j a b⟩
 ·exact .inr ⟨h1,h2,fun j b=>by rw[<-key j b];exact h3 j b⟩
end
theorem zq8(s:ByteArray)(w h:Int)(sp:Option Addr)(sn sc:Nat)(x y:Int)(idf off:Nat->Int)(E:Nat->Addr)(W:World)(hG:Glo W E)(hA:z34 W E)(hE:ErT W)(ht:z0y W)(hsc:Scr W sp sn idf off)(hsn:sn≤8796093022208) :
 Calls Tryz.prog 6 #[.string s,.int .i64 w,.int .i64 h,.slice sp sn sc,.int .i64 x,.int .i64 y] W fun e W'=>e=.returned (.bool true)∧Below W.heap.size W W':=by
 have hmix:Tryz.prog.follows .mixedOrders=true:=by kernel_rfl
 obtain⟨Wd,H,hSz⟩:=zfs s
 have RT:Hid (Calls Tryz.prog 18 #[.string s,.int .i64 w,.int .i64 h] W fun e U'=>e=.returned (.bool (z6z s w h))∧Hid (Below W.heap.size W U')):=zmt s w h W
 have NU:Hid (∀n u,Calls Tryz.prog 9 #[.int .i64 n] u fun e w'=>e=.returned (.int .i64 n)∧w'=u):=zgx
 have SC:Hid (∀u,Below W.heap.size W u->Calls Tryz.prog 12 #[.slice sp sn sc] u fun e u'=>∃p c,e=.returned (.slice p sn c)∧Hid (Scr u' p sn idf off∧(∀a:Addr,p=some a->a.block<u'.heap.size)∧Below W.heap.size W u'∧Below u.heap.size u u')):=fun u hu=>(z9z sp sn sc idf off u (hsc.below hu) hsn).mono (by
  rintro e u' ⟨p,c,h1,h2,h3,h4⟩
  exact⟨p,c,h1,h2,fun a e=>(h3 a e).2,hu.trans (h4.mono hu.size),h4⟩)
 have HT:Hid (∀u p c,Below W.heap.size W u->Scr u p sn idf off->(∀a:Addr,p=some a->a.block<u.heap.size)->Calls Tryz.prog 16 #[.string s,.int .i64 w,.int .i64 h,.slice p sn c,.int .i64 x,.int .i64 y] u fun e u'=>HtAt u u' w h idf off sn Wd H x y (z0s s) e):=fun u p c hu h1 h2=>zu6 s w h p sn c idf off x y E u (hG.cells hu) (hA.below hu) (hE.below hu) (ht.below hu) h1 (by omega) h2 Wd H hSz
 by_cases hr:z3h s w h
 ·rw[zb3 hr] at RT
  have LD:Hid (∀u,Below W.heap.size W u->Calls Tryz.prog 19 #[.string s,.int .i64 w,.int .i64 h,.slice sp sn sc] u fun e U'=>∃ (L:List Nd) (g cap pb:Nat) (KV:Nat->Value) (P:Nat->Nat->Int),e=.returned (.tuple #[.slice (some ⟨g,0,none⟩) L.length cap,.slice (some ⟨pb,0,none⟩) L.length L.length,.bool true])∧Hid (NP U' g pb L KV P)∧Hid (z0s s=.ok L∧Tree s L∧PlTo L Wd H w h idf off sn P L.length)∧Hid (Below W.heap.size W U')):=fun u hu=>zf6 hr sp sn sc idf off E W hG hA hE ht hsc hsn Wd H hSz u hu
  have HSZ:Hid ((1≤w∧w≤400)∧(1≤h∧h≤400)):=hr.sz
  have HT2:Hid (∀ (L:List Nd) (P:Nat->Nat->Int) u p c,z0s s=.ok L->Tree s L->PlTo L Wd H w h idf off sn P L.length->Below W.heap.size W u->Scr u p sn idf off->(∀a:Addr,p=some a->a.block<u.heap.size)->Calls Tryz.prog 16 #[.string s,.int .i64 w,.int .i64 h,.slice p sn c,.int .i64 x,.int .i64 y] u fun e u'=>∃ (k:Nat) (ce:Int),e=.returned (.tuple #[.int .i64 (k:Int),.int .i64 ce,.int .i64 0])∧Hid (znp P L.length x y k ce)∧Hid (Below u.heap.size u u')):=fun L P u p c e1 e2 e3 hu h1 h2=>(HT.out u p c hu h1 h2).mono fun e u' q=>by
   rw[e1] at q
   obtain⟨hb,q⟩:=q
   rcases q with ⟨q,_⟩|⟨_,Q,k,ce,q1,q2,q3⟩
   ·exact absurd (by have:=HSZ.out;omega) q
   ·exact⟨k,ce,q3,PlTo.hitIs e2 e3 q1 q2,hb⟩
  clear hG hA hE ht hsc HT hSz
  go_enter Tryz.func6,Tryz.ntmps6
  go_wp2_with (first|(go_at_call 18;refine RT.out.mono ?_;rintro e U1 ⟨rfl,HB1⟩)|(go_at_call 19;refine (LD.out _ HB1.out).mono ?_;rintro e U2 ⟨L,g,cap,pb,KV,P,rfl,HNP,HTP,HB2⟩)|(go_at_call 12;refine (SC.out _ HB2.out).mono ?_;rintro e U3 ⟨p3,c3,rfl,HB3⟩))
  go_at_call 16
  refine (HT2.out L P _ _ _ HTP.out.1 HTP.out.2.1 HTP.out.2.2 HB3.out.2.2.1 HB3.out.1 HB3.out.2.1).mono ?_
  rintro e U4 ⟨k,ce,rfl,HK,HB4⟩
  have HBA:Hid (Below W.heap.size W U4):=HB3.out.2.2.1.trans (HB4.out.mono HB3.out.2.2.1.size)
  have HNQ:Hid (NP U4 g pb L KV P):=HNP.out.below (HB3.out.2.2.2.trans (HB4.out.mono HB3.out.2.2.2.size))
  clear RT LD SC HT2 HB1 HB2 HB3 HB4
  by_cases hxy:0≤x∧x<w∧0≤y∧y<h
  ·obtain⟨hx0,hx1,hy0,hy1⟩:=hxy
   have hh0:=HTP.out.2.2.has0 HSZ.out.1 HSZ.out.2 ⟨hx0,hx1⟩ ⟨hy0,hy1⟩
   obtain⟨rfl,hkN,HKY,HKN⟩:ce=0∧k<L.length∧Hid (z1e P x y k=true)∧Hid (∀j,k<j->j<L.length->z1e P x y j=false):=by
    rcases HK.out with ⟨a,b,c,d⟩|⟨a,b,c⟩
    ·exact⟨a,b,c,d⟩
    ·have:=c 0 HTP.out.2.1.pos
     rw[hh0] at this
     cases this
   have q1:decide (x<0)=false:=decide_eq_false (by omega)
   have q2:decide (w≤x)=false:=decide_eq_false (by omega)
   have q3:decide (y<0)=false:=decide_eq_false (by omega)
   have q4:decide (h≤y)=false:=decide_eq_false (by omega)
   obtain⟨N,hN⟩:∃z,L.length=z:=⟨_,rfl⟩
   have HN:Hid (L.length=N):=hN
   have hN100:N≤100:=by have:=HTP.out.2.1.vl.cnt;omega
   rw[hN] at hkN ⊢
   have hk0:(0:Int)≤(k:Int):=by omega
   have hkN':(k:Int)<(N:Int):=by omega
   have q5:decide ((N:Int)≤(k:Int))=false:=decide_eq_false (by omega)
   have q6:decide ((k:Int)<0)=false:=decide_eq_false (by omega)
   clear hh0 hN HK
   go_wp2_with (go_at_call 9;(with_reducible refine Calls.mono (NU.out _ _) ?_);rintro e u5 ⟨rfl,h5⟩;obtain rfl:=h5.symm)
   rw[show decide (N≤k)=false from decide_eq_false (by omega)]
   clear q5
   go_loopw [20] (fun iv wr=>∃i:Nat,k≤i∧i≤N∧iv=.int .i64 (i:Int)∧Hid (Below U4.heap.size U4 wr)) (fun iv _=>N - (intOf iv).toNat)
   case atStart=>exact⟨k,Nat.le_refl _,by omega,rfl,Below.refl _ _⟩
   case round =>
    obtain⟨i,hki,hi,rfl,HB⟩:=hrel
    by_cases hlt:i<N
    ·have hlt':(i:Int)<(N:Int):=by omega
     have hiL:i<L.length:=by have:=HN.out;omega
     have HNr:Hid (NP wr g pb L KV P):=HNQ.out.below HB.out
     have y4:=HNr.out.pl i 4 hiL (by omega)
     have y5:=HNr.out.pl i 5 hiL (by omega)
     have y6:=HNr.out.pl i 6 hiL (by omega)
     have y7:=HNr.out.pl i 7 hiL (by omega)
     have HO:Hid (∀u,Calls Tryz.prog 20 #[.agg #[.int .i64 (P i 4),.int .i64 (P i 5),.int .i64 (P i 6),.int .i64 (P i 7)],.int .i64 x,.int .i64 y] u fun e u'=>e=.returned (.bool (z1e P x y i))∧Hid (Below u.heap.size u u')):=fun u=>(zdd (P i 4) (P i 5) (P i 6) (P i 7) x y u).mono fun e u' q=>⟨q.1,q.2.below⟩
     by_cases hik:i=k
     ·have HKI:z1e P x y i=true:=by rw[hik];exact HKY.out
      rw[HKI] at HO
      have e1:((i:Int)==(k:Int))=true:=by rw[hik];simp
      have HIK:Hid (i=k):=hik
      clear hik HKI
      generalize P i 4=c4 at y4 HO
      generalize P i 5=c5 at y5 HO
      generalize P i 6=c6 at y6 HO
      generalize P i 7=c7 at y7 HO
      go_wp2_with (go_at_call 20;refine (HO.out _).mono ?_;rintro e u2 ⟨rfl,HBh⟩)
      go_roundw
      case rel=>exact⟨i+1,by omega,by omega,by go_num,HB.out.trans (HBh.out.mono HB.out.size)⟩
      case measure=>simp[intOf];omega
     ·rw[HKN.out i (by omega) hiL] at HO
      have e1:((i:Int)==(k:Int))=false:=by simp;omega
      generalize P i 4=c4 at y4 HO
      generalize P i 5=c5 at y5 HO
      generalize P i 6=c6 at y6 HO
      generalize P i 7=c7 at y7 HO
      go_wp2_with (go_at_call 20;refine (HO.out _).mono ?_;rintro e u2 ⟨rfl,HBh⟩)
      go_roundw
      case rel=>exact⟨i+1,by omega,by omega,by go_num,HB.out.trans (HBh.out.mono HB.out.size)⟩
      case measure=>simp[intOf];omega
    ·have hlt':¬(i:Int)<(N:Int):=by omega
     go_wp2
     go_ret
     exact⟨rfl,HBA.out.trans (HB.out.mono HBA.out.size)⟩
  ·obtain⟨rfl,rfl⟩:ce=6∧k=0:=by
    rcases HK.out with ⟨a,b,c,d⟩|⟨a,b,c⟩
    ·have:=HTP.out.2.2.hasno HTP.out.2.1 HSZ.out.1 HSZ.out.2 hxy b
     rw[this] at c
     cases c
    ·exact⟨a,b⟩
   by_cases q1:x<0
   ·have q1:decide (x<0)=true:=decide_eq_true q1
    clear hxy
    go_wp2_with (go_at_call 9;(with_reducible refine Calls.mono (NU.out _ _) ?_);rintro e u5 ⟨rfl,h5⟩;obtain rfl:=h5.symm)
    go_ret
    exact⟨rfl,HBA.out⟩
   ·have q1:decide (x<0)=false:=decide_eq_false q1
    by_cases q2:w≤x
    ·have q2:decide (w≤x)=true:=decide_eq_true q2
     clear hxy
     go_wp2_with (go_at_call 9;(with_reducible refine Calls.mono (NU.out _ _) ?_);rintro e u5 ⟨rfl,h5⟩;obtain rfl:=h5.symm)
     go_ret
     exact⟨rfl,HBA.out⟩
    ·have q2:decide (w≤x)=false:=decide_eq_false q2
     by_cases q3:y<0
     ·have q3:decide (y<0)=true:=decide_eq_true q3
      clear hxy
      go_wp2_with (go_at_call 9;(with_reducible refine Calls.mono (NU.out _ _) ?_);rintro e u5 ⟨rfl,h5⟩;obtain rfl:=h5.symm)
      go_ret
      exact⟨rfl,HBA.out⟩
     ·have q3:decide (y<0)=false:=decide_eq_false q3
      have q4:decide (h≤y)=true:=decide_eq_true (by simp only[decide_eq_false_iff_not] at q1 q2 q3;omega)
      clear hxy
      go_wp2_with (go_at_call 9;(with_reducible refine Calls.mono (NU.out _ _) ?_);rintro e u5 ⟨rfl,h5⟩;obtain rfl:=h5.symm)
      go_ret
      exact⟨rfl,HBA.out⟩
 ·rw[z9u hr] at RT
  have LD:Hid (∀u,Below W.heap.size W u->Calls Tryz.prog 19 #[.string s,.int .i64 w,.int .i64 h,.slice sp sn sc] u fun e U'=>∃a b,e=.returned (.tuple #[a,b,.bool false])∧Hid (Below W.heap.size W U')):=fun u hu=>zsb hr sp sn sc idf off E W hG hA hE ht hsc hsn u hu
  have HT2:Hid (∀u p c,Below W.heap.size W u->Scr u p sn idf off->(∀a:Addr,p=some a->a.block<u.heap.size)->Calls Tryz.prog 16 #[.string s,.int .i64 w,.int .i64 h,.slice p sn c,.int .i64 x,.int .i64 y] u fun e u'=>∃ce d:Int,e=.returned (.tuple #[.int .i64 0,.int .i64 ce,.int .i64 d])∧(ce != 0)=true∧Hid (Below u.heap.size u u')):=fun u p c hu h1 h2=>(HT.out u p c hu h1 h2).mono fun e u' q=>by
   cases hp:z0s s with
   | error z =>
    rw[hp] at q
    exact⟨_,_,q.2,by have:=z90 hp;simp;omega,q.1⟩
   | ok L =>
    rw[hp] at q
    obtain⟨hb,q⟩:=q
    rcases q with ⟨_,q⟩|⟨q,_⟩
    ·exact⟨_,_,q,rfl,hb⟩
    ·exact absurd ⟨L,hp,q⟩ hr
  clear hG hA hE ht hsc HT hSz hr
  go_enter Tryz.func6,Tryz.ntmps6
  go_wp2_with (first|(go_at_call 18;refine RT.out.mono ?_;rintro e U1 ⟨rfl,HB1⟩)|(go_at_call 19;refine (LD.out _ HB1.out).mono ?_;rintro e U2 ⟨a,b,rfl,HB2⟩)|(go_at_call 12;refine (SC.out _ HB2.out).mono ?_;rintro e U3 ⟨p3,c3,rfl,HB3⟩)|(go_at_call 16;refine (HT2.out _ _ _ HB3.out.2.2.1 HB3.out.1 HB3.out.2.1).mono ?_;rintro e U4 ⟨ce,d,rfl,hce,HB4⟩)|(go_at_call 9;(with_reducible refine Calls.mono (NU.out _ _) ?_);rintro e u5 ⟨rfl,h5⟩;obtain rfl:=h5.symm))
  go_ret
  exact⟨rfl,HB3.out.2.2.1.trans (HB4.out.mono HB3.out.2.2.1.size)⟩
end
end Go.Proofs.YtnponhbgicbkcaaGreatDoor
