import Derived.Test.YtiaimhjebnobnaaGreatDoorQ49
import Derived.Test.YtiaimhjebnobnaaGreatDoorQ28
import Derived.Test.YtiaimhjebnobnaaGreatDoorQ30
namespace Go.Proofs.YtiaimhjebnobnaaGreatDoor
open Go.RowKit Go.Sort Go.Proofs.Tryz
set_option linter.all false
theorem AR{fn:Func}{t u v x}(h:fn.results=#[.tmp t,.tmp u,.tmp v,.tmp x])  tmps   P   w  :
 (results fn tmps).run P w=.ok (.tuple #[tmps.getD t undef,tmps.getD u undef,tmps.getD v undef,tmps.getD x undef]) w:=by simp[results,h]
set_option maxRecDepth 100000 in
set_option maxHeartbeats 8000000 in
theorem Vu(t:ByteArray)(w h:Int)(sp:Option Addr)(sn sc:Nat)(bi off:Nat->Int)(U:World)(hsc:mg U sp sn bi off)(xj:sn<=4611686018427387904){L:List Nd}(hp:cL t=.ok L){Wd:Nat->Int}{H:Nat->Int->Int}(hZ:Sz L Wd H)(hs:1<=w/\w<=400/\1<=h/\h<=400):
 Cw 8 #[.string t,Iq w,Iq h,.slice sp sn sc] U fun e U'=>∃g cap pb P,e=Rw (.tuple #[Sq g L.length cap,Sq pb L.length L.length,Iq 0,Iq 0])/\Hid (ju U' g L.length (ae L))/\Hid (U'.rowIs pb 75 (L.length*10) (lr P))/\Hid (dB L Wd H w h bi off sn P L.length)/\Hid (Bt U U'):=by
 have RP:=wm t U;have hT:=jL (fO hp);have fZ:=hT.pos;rw[fO hp]at RP;have RP2:Hid (Cw 12 #[.string t] U fun e w'=>∃g cap,e=Rw (.tuple #[Sq g L.length cap,Iq 0,Iq 0])/\Hid (ju w' g L.length (ae L))/\Hid (Bt U w')):=RP.mono fun e w' q=>by
  obtain⟨h1,nv,AV,KV,h2,h3⟩:=q;obtain⟨g,cap,hv,kV⟩:∃g cap,nv=Sq g L.length cap/\g<w'.heap.size:=by obtain⟨xs,hx⟩:=h3.nr.row;grind[dK]
  subst hv;exact⟨g,cap,h2,h3.nds kV,h1⟩
 have PL:Hid (∀g cap u,ju u g L.length (ae L)->Bt U u->Cw 19 #[Sq g L.length cap,Iq w,Iq h,.slice sp sn sc] u fun e U'=>∃pb,e=Rw (Sq pb L.length L.length)/\Hid (FO u U' L Wd H w h bi off sn pb)):=fun g cap u hu hb=>Eu hT hZ g cap sp sn sc bi off w h u hu (hsc.below hb) xj ⟨hs.1,hs.2.1⟩ hs.2.2;obtain⟨s1,s2,s3,s4⟩:=hs;have t1:¬w<1:=by omega
 have t2:¬400<w:=by omega
 have t3:¬h<1:=by omega
 have t4:¬400<h:=by omega
 go_enter func8,ntmps8;go_wp2_with(first|(go_at_call 12;refine RP2.mono ?_;rintro e U1 ⟨g,cap,rfl,HN1,HB1⟩)|(go_at_call 19;refine(PL _ _ _ HN1 HB1).mono ?_;rintro e U2 ⟨pb,rfl,HO⟩));all_goals refine bodyPost_ret (AR rfl _ _ _) rfl ?_;obtain⟨z1,P,z2,z3⟩:=HO.out;exact⟨g,cap,pb,P,rfl,HN1.below z1,z2,z3,HB1.trans (z1.mono HB1.size)⟩
end Go.Proofs.YtiaimhjebnobnaaGreatDoor
namespace Go.Proofs.YtiaimhjebnobnaaGreatDoor
open Go.RowKit Go.Sort
set_option linter.all false
theorem Jz  t  :∃Wd H,∀L,cL t=.ok L->Sz L Wd H:=by
 cases hp:cL t with
 |error x=>simp_all
 |ok L=>obtain⟨Wd,H,hS⟩:=zdG (jL (fO hp)).nest;exact⟨Wd,H,fun L' q=>by grind⟩
end Go.Proofs.YtiaimhjebnobnaaGreatDoor
namespace Go.Proofs.YtiaimhjebnobnaaGreatDoor
open Go.RowKit Go.Sort Go.Proofs.Tryz
set_option linter.all false
/--J7 Yk zI. -/
def zbi(U U':World)(w h:Int)(bi off:Nat->Int)(sn:Nat)(r:Except (Option (Nat×Nat)) (List Nd))(e:Ending):Prop:=Bt U U'/\match r with
 |.error x=>e=Rw (.tuple #[.slice none 0 0,Iq (jX x:Int),Iq (pR x:Int)])
 |.ok L=>(¬(1<=w/\w<=400/\1<=h/\h<=400)/\e=Rw (.tuple #[.slice none 0 0,Iq 6,Iq 0]))\/((1<=w/\w<=400/\1<=h/\h<=400)/\∃pb P Wd H,Sz L Wd H/\e=Rw (.tuple #[Sq pb L.length L.length,Iq 0,Iq 0])/\U'.rowIs pb 65 (L.length*10) (lr P)/\dB L Wd H w h bi off sn P L.length/\U.heap.size<=pb)
/--J7 Yk zI,where Wd and H are what Xw zjb. -/
def zgK(U U':World)(w h:Int)(bi off:Nat->Int)(sn:Nat)(Wd:Nat->Int)(H:Nat->Int->Int)(r:Except (Option (Nat×Nat)) (List Nd))(e:Ending):Prop:=Bt U U'/\match r with
 |.error x=>e=Rw (.tuple #[.slice none 0 0,Iq (jX x:Int),Iq (pR x:Int)])
 |.ok L=>(¬(1<=w/\w<=400/\1<=h/\h<=400)/\e=Rw (.tuple #[.slice none 0 0,Iq 6,Iq 0]))\/((1<=w/\w<=400/\1<=h/\h<=400)/\∃pb P,e=Rw (.tuple #[Sq pb L.length L.length,Iq 0,Iq 0])/\U'.rowIs pb 65 (L.length*10) (lr P)/\dB L Wd H w h bi off sn P L.length/\U.heap.size<=pb)
set_option maxRecDepth 100000 in
set_option maxHeartbeats 8000000 in
theorem layout_at(t:ByteArray)(w h:Int)(sp:Option Addr)(sn sc:Nat)(bi off:Nat->Int)(E:Nat->Addr)(U:World)(hG:BQ U E)(hA:jt U E)(hE:BP U)(ht:cG U)(hsc:mg U sp sn bi off)(xj:sn<=4611686018427387904)(hsp:∀a:Addr,sp=some a->a.block<U.heap.size)(Wd:Nat->Int)(H:Nat->Int->Int)(hSz:∀L,cL t=.ok L->Sz L Wd H):
 Cw 13 #[.string t,Iq w,Iq h,.slice sp sn sc] U fun e U'=>zgK U U' w h bi off sn Wd H (cL t) e:=by
 have HSz:Hid (∀L,cL t=.ok L->Sz L Wd H):=hSz;clear hSz;have TP:Hid (Cw 14 #[.string t] U fun e w'=>Wv U w' e (cL t)):=wO t E U hG hA hE;have SD:Hid (∀n u,Cw 28 #[Iq n] u fun e w'=>e=Rw (.bool (decide (1<=n/\n<=400)))/\w'=u):=GD;have HT:Hid (cG U/\mg U sp sn bi off):=⟨ht,hsc⟩;clear hG hA hE ht hsc;go_enter func13,ntmps13;go_wp2_with fail;refine TP.mono ?_;rintro e U1 ⟨hb1,hr⟩;have HB1:Hid (Bt U U1):=hb1;clear hb1 TP;cases hp:cL t with
 |error x=>
  rw[hp]at hr;subst hr;have hx:(jX x:Int)≠0:=by have:=uc hp;omega
  have nD:((jX x:Int)!=0)=true:=by simpa using hx
  have Nl:Hid (cL t=.error x):=hp;obtain⟨c,hc⟩:∃z:Int,(jX x:Int)=z:=⟨_,rfl⟩;have HCE:Hid ((jX x:Int)=c):=hc;rw[hc]at hx nD⊢;clear hp hc;go_wp2;refine bodyPost_ret (results_tmp3 rfl _ _ _) rfl ?_;rw[Nl.out];exact⟨HB1,by show _=_;rw[HCE.out];rfl⟩
 |ok L=>
  rw[hp]at hr;obtain⟨nv,KV,rfl,hn⟩:=hr;have hT:dZ t L:=jL (fO hp);have hS:=HSz L hp;have fZ:=hT.pos;obtain⟨g,cap,rfl⟩:∃g cap,nv=Sq g L.length cap:=by obtain⟨xs,hx⟩:=hn.nr.row;grind[dK]
  have HN:Hid (PN U1 U.heap.size (Sq g L.length cap) L KV):=hn;have Nl:Hid (cL t=.ok L):=hp;clear hn hp;by_cases hw:1<=w/\w<=400
  ·by_cases hh:1<=h/\h<=400
   ·have S1:Hid (∀u,Cw 28 #[Iq w] u fun e w'=>e=Rw (.bool true)/\w'=u):=fun u=>by have:=SD w u;grind
    have S2:Hid (∀u,Cw 28 #[Iq h] u fun e w'=>e=Rw (.bool true)/\w'=u):=fun u=>by have:=SD h u;grind
    have NM:Hid (Cw 29 #[Sq g L.length cap] U1 fun e u'=>∃mb r wb,e=Rw (Pq mb)/\Hid (Bt U1 u'/\Hs u' mb r g cap wb L KV Wd H 0/\U1.heap.size<=r)):=by refine(vG g cap hT hS U1 _ HN (HT.1.below HB1)).mono ?_;rintro e u' ⟨mb,r,wb,h1,h2,h3,h4⟩;exact⟨mb,r,wb,h1,h2,h3,h4⟩
    have PL:Hid (∀u mb r wb,Bt U1 u->Hs u mb r g cap wb L KV Wd H 0->Cw 30 #[Pq mb,Iq w,Iq h,.slice sp sn sc] u fun e u'=>∃pb,e=Rw (Sq pb L.length L.length)/\Hid (∃P,u'.rowIs pb 65 (L.length*10) (lr P)/\dB L Wd H w h bi off sn P L.length/\u.grownBy u' (some r)/\u.heap.size<=pb)):=fun u mb r wb hu hHs=>by have iD:=HB1.trans (hu.mono HB1.size);refine(Hd mb r g cap wb hT hS w h sp sn sc bi off u hHs hw hh (HT.2.below iD) xj (fun a e=>zz008 (hsp a e) iD.size)).mono ?_;rintro e u' ⟨pb,P,h1,h2,h3,h4,h5⟩;exact⟨pb,h1,P,h2,h3,h4,h5⟩
    clear SD HT;go_wp2_with(first|(go_at_call 28;(with_reducible refine ao (S1.out _) ?_);rintro e u5 ⟨rfl,h5⟩;obtain rfl:=h5.symm)|(go_at_call 28;(with_reducible refine ao (S2.out _) ?_);rintro e u5 ⟨rfl,h5⟩;obtain rfl:=h5.symm)|(go_at_call 29;refine ao NM.out ?_;rintro e u6 ⟨mb,r,wb,rfl,HH⟩)|(go_at_call 30;refine ao (PL.out _ _ _ _ HH.out.1 HH.out.2.1) ?_;rintro e u7 ⟨pb,rfl,HZ⟩));all_goals refine bodyPost_ret (results_tmp3 rfl _ _ _) rfl ?_;rw[Nl.out];obtain⟨P,z1,z2,z3,z4⟩:=HZ.out;obtain⟨q1,q2,q3⟩:=HH.out;have hb1:=HB1.out;have ri:=hb1.trans (q1.mono hb1.size);have hle:=hb1.size;have zid:=ri.size;refine⟨ri.grown z3 zid (fun k hk=>by grind),?_⟩;exact .inr ⟨⟨hw.1,hw.2,hh.1,hh.2⟩,pb,P,rfl,z1,z2,by omega⟩
   ·have S1:Hid (∀u,Cw 28 #[Iq w] u fun e w'=>e=Rw (.bool true)/\w'=u):=fun u=>by have:=SD w u;grind
    have S2:Hid (∀u,Cw 28 #[Iq h] u fun e w'=>e=Rw (.bool false)/\w'=u):=fun u=>by have:=SD h u;grind
    clear SD HT HN;go_wp2_with(first|(go_at_call 28;(with_reducible refine ao (S1.out _) ?_);rintro e u5 ⟨rfl,h5⟩;obtain rfl:=h5.symm)|(go_at_call 28;(with_reducible refine ao (S2.out _) ?_);rintro e u5 ⟨rfl,h5⟩;obtain rfl:=h5.symm));all_goals refine bodyPost_ret (results_tmp3 rfl _ _ _) rfl ?_;rw[Nl.out];exact⟨HB1,.inl ⟨fun q=>hh ⟨q.2.2.1,q.2.2.2⟩,rfl⟩⟩
  ·have S1:Hid (∀u,Cw 28 #[Iq w] u fun e w'=>e=Rw (.bool false)/\w'=u):=fun u=>by have:=SD w u;grind
   clear SD HT HN;go_wp2_with(go_at_call 28;refine ao (S1 _) ?_;rintro e u5 ⟨rfl,h5⟩;obtain rfl:=h5.symm);all_goals refine bodyPost_ret (results_tmp3 rfl _ _ _) rfl ?_;rw[Nl.out];exact⟨HB1,.inl ⟨fun q=>hw ⟨q.1,q.2.1⟩,rfl⟩⟩
theorem ZC  t   w h   sp   sn sc   bi off   E   U  (hG:BQ U E) (hA:jt U E) (hE:BP U) (ht:cG U) (hsc:mg U sp sn bi off) (xj:sn<=4611686018427387904) (hsp:∀a,sp=some a->a.block<U.heap.size):
 Cw 13 #[.string t,Iq w,Iq h,.slice sp sn sc] U fun e U'=>zbi U U' w h bi off sn (cL t) e:=by obtain⟨Wd,H,hS⟩:=Jz t;refine(layout_at t w h sp sn sc bi off E U hG hA hE ht hsc xj hsp Wd H hS).mono ?_;rintro e U' ⟨hb,q⟩;refine⟨hb,?_⟩;grind
end Go.Proofs.YtiaimhjebnobnaaGreatDoor
namespace Go.Proofs.YtiaimhjebnobnaaGreatDoor
open Go.RowKit Go.Sort Go.Proofs.Tryz
set_option linter.all false
/--P1: Xw zfi one behind the other. -/
def frK(W H:Nat)(L:List Nd)(P:Nat->Nat->Int):Nat->Nat->Nat->Ce
 |0=>fun _ _=>bk 0 0 0
 |k+1=>pnF W H (gw L k).1 (gw L k).2.1 (gw L k).2.2 (P k 4) (P k 5) (P k 6) (P k 7) (ae L k).kind (aF (ae L k) 6) (aF (ae L k) 7) (aF (ae L k) 8) (aF (ae L k) 10) (ae L k).text (P k 0) (P k 1) (P k 2) (P k 3) (frK W H L P k)
theorem CQ{W H}{Q:(Nat->Nat->Ce)->Prop}{L}{P}(h0:Q (fun _ _=>bk 0 0 0))(hf:∀c x y w hh f g bd cx cy ca cb,Q c->Q (tu W H c x y w hh f g bd cx cy ca cb))(hs:∀f g bd cx cy ca cb x y s c,Q c->Q (wrL W H f g bd cx cy ca cb x y s c)):∀k,Q (frK W H L P k)
 |0=>h0
 |k+1=>Qy (fun c hc=>hf c _ _ _ _ _ _ _ _ _ _ _ hc) (fun x y s c hc=>hs _ _ _ _ _ _ _ x y s c hc) (CQ h0 hf hs k)
theorem PAll.blank  W H  :PAll W H (fun _ _=>bk 0 0 0):=fun y hy=>⟨fun i hi=>.inl rfl,fun i hi h=>(by cases h),fun i hi h=>(by cases h)⟩
theorem PAll.frK{W H:Nat}(hW:1<=W/\W<=400)(hH:1<=H/\H<=400)(L:List Nd)(P:Nat->Nat->Int)(k:Nat):PAll W H (frK W H L P k):=
 CQ (Q:=PAll W H) (PAll.blank W H) (fun c _ _ _ _ _ _ _ _ _ _ _ hc=>hc.filX hW hH _ _ _ _ _ _ _ _ _ _ _) (fun _ _ _ _ _ _ _ _ _ _ c hc=>hc.wrL hW hH _ _ _ _ _ _ _ _ _ _) k
/--J7 Frame zI. -/
def zaz(U U':World)(w h:Int)(bi off:Nat->Int)(sn:Nat)(r:Except (Option (Nat×Nat)) (List Nd))(e:Ending):Prop:=Bt U U'/\match r with
 |.error x=>e=Rw (.tuple #[.slice none 0 0,Iq (jX x:Int),Iq (pR x:Int)])
 |.ok L=>(¬(1<=w/\w<=400/\1<=h/\h<=400)/\e=Rw (.tuple #[.slice none 0 0,Iq 6,Iq 0]))\/∃W H:Nat,w=W/\h=H/\(1<=W/\W<=400)/\(1<=H/\H<=400)/\∃N cap P Wd Hf,Sz L Wd Hf/\dB L Wd Hf w h bi off sn P L.length/\e=Rw (.tuple #[Sq N (W*H) cap,Iq 0,Iq 0])/\Cv 42 U' N W H (frK W H L P L.length)/\U.heap.size<=N
/--J7 Frame zI,where Wd and Hf are what Xw zjb. -/
def zft(U U':World)(w h:Int)(bi off:Nat->Int)(sn:Nat)(Wd:Nat->Int)(Hf:Nat->Int->Int)(r:Except (Option (Nat×Nat)) (List Nd))(e:Ending):Prop:=Bt U U'/\match r with
 |.error x=>e=Rw (.tuple #[.slice none 0 0,Iq (jX x:Int),Iq (pR x:Int)])
 |.ok L=>(¬(1<=w/\w<=400/\1<=h/\h<=400)/\e=Rw (.tuple #[.slice none 0 0,Iq 6,Iq 0]))\/∃W H:Nat,w=W/\h=H/\(1<=W/\W<=400)/\(1<=H/\H<=400)/\∃N cap P,dB L Wd Hf w h bi off sn P L.length/\e=Rw (.tuple #[Sq N (W*H) cap,Iq 0,Iq 0])/\Cv 42 U' N W H (frK W H L P L.length)/\U.heap.size<=N/\W*H<=cap/\cap<=9223372036854775807
/--A zkF in memory. -/
def R8(u:World)(B K:Nat)(f0 f1 f2 c0 c1 c2 c3:Int):Prop:=u.heap[B]?=some (.cells #[Pq K,Iq f0,Iq f1,Iq f2,Iq c0,Iq c1,Iq c2,Iq c3] 60 (0,0))
theorem cN.drewn{M}{W W'}(h:cN M W W'):cN M W W'.drew:=⟨h.os,h.tape,h.output,h.size,h.block⟩
section
variable{u:World} {B K:Nat} {f0 f1 f2 c0 c1 c2 c3:Int}
theorem R8.s1(h:R8 u B K f0 f1 f2 c0 c1 c2 c3)  v  :R8 (u.setCell (az B 1) (.int .i64 v)) B K v f1 f2 c0 c1 c2 c3:=heap_setCell_same _ B 1 _ _ _ h
theorem R8.s2(h:R8 u B K f0 f1 f2 c0 c1 c2 c3)  v  :R8 (u.setCell (az B 2) (.int .i64 v)) B K f0 v f2 c0 c1 c2 c3:=heap_setCell_same _ B 2 _ _ _ h
theorem R8.s3(h:R8 u B K f0 f1 f2 c0 c1 c2 c3)  v  :R8 (u.setCell (az B 3) (.int .i64 v)) B K f0 f1 v c0 c1 c2 c3:=heap_setCell_same _ B 3 _ _ _ h
theorem R8.s4(h:R8 u B K f0 f1 f2 c0 c1 c2 c3)  v  :R8 (u.setCell (az B 4) (.int .i64 v)) B K f0 f1 f2 v c1 c2 c3:=heap_setCell_same _ B 4 _ _ _ h
theorem R8.s5(h:R8 u B K f0 f1 f2 c0 c1 c2 c3)  v  :R8 (u.setCell (az B 5) (.int .i64 v)) B K f0 f1 f2 c0 v c2 c3:=heap_setCell_same _ B 5 _ _ _ h
theorem R8.s6(h:R8 u B K f0 f1 f2 c0 c1 c2 c3)  v  :R8 (u.setCell (az B 6) (.int .i64 v)) B K f0 f1 f2 c0 c1 v c3:=heap_setCell_same _ B 6 _ _ _ h
theorem R8.s7(h:R8 u B K f0 f1 f2 c0 c1 c2 c3)  v  :R8 (u.setCell (az B 7) (.int .i64 v)) B K f0 f1 f2 c0 c1 c2 v:=heap_setCell_same _ B 7 _ _ _ h
theorem R8.dr(h:R8 u B K f0 f1 f2 c0 c1 c2 c3):R8 u.drew B K f0 f1 f2 c0 c1 c2 c3:=h
theorem R8.seven(h:R8 u B K f0 f1 f2 c0 c1 c2 c3)  s0 s1 s2 s3 s4 s5 s6  :R8 (((((((u.setCell (az B 1) (.int .i64 s0)).setCell (az B 2) (.int .i64 s1)).setCell (az B 3) (.int .i64 s2)).setCell (az B 4) (.int .i64 s3)).setCell (az B 5) (.int .i64 s4)).setCell (az B 6) (.int .i64 s5)).setCell (az B 7) (.int .i64 s6)).drew B K s0 s1 s2 s3 s4 s5 s6:=
 (((((((h.s1 s0).s2 s1).s3 s2).s4 s3).s5 s4).s6 s5).s7 s6).dr
end
set_option maxRecDepth 100000 in
set_option maxHeartbeats 8000000 in
theorem LR(t:ByteArray)(w h:Int)(sp:Option Addr)(sn sc:Nat)(bi off:Nat->Int)(E:Nat->Addr)(U:World)(hG:BQ U E)(hA:jt U E)(hE:BP U)(ht:cG U)(hsc:mg U sp sn bi off)(xj:sn<=4611686018427387904)(hsp:∀a:Addr,sp=some a->a.block<U.heap.size)(Wd:Nat->Int)(Hf:Nat->Int->Int)(hSz:∀L,cL t=.ok L->Sz L Wd Hf):
 Cw 5 #[.string t,Iq w,Iq h,.slice sp sn sc] U fun e U'=>zft U U' w h bi off sn Wd Hf (cL t) e:=by
 have LY:=qH<|layout_at t w h sp sn sc bi off E U hG hA hE ht hsc xj hsp Wd Hf hSz;clear hSz;cases hp:cL t with
 |error x=>
  rw[hp]at LY;have hx:(jX x:Int)≠0:=by have:=uc hp;omega
  obtain⟨c,hc⟩:∃z:Int,(jX x:Int)=z:=⟨_,rfl⟩;obtain⟨d,hd⟩:∃z:Int,(pR x:Int)=z:=⟨_,rfl⟩;have _I:Hid (Cw 13 #[.string t,Iq w,Iq h,.slice sp sn sc] U fun e u'=>e=Rw (.tuple #[.slice none 0 0,Iq c,Iq d])/\Hid (Bt U u')):=LY.mono fun e w' q=>⟨by have:=q.2;grind,q.1⟩;have YZ:(c==0)=false:=by rw[<-hc];simpa using hx
  have HC:=qH hc;have HD:=qH hd;clear LY hc hd hx;go_enter func5,ntmps5;go_wp2_with(go_at_call 13;refine _I.mono ?_;rintro e U1 ⟨rfl,HB1⟩);refine bodyPost_ret (results_tmp3 rfl _ _ _) rfl ?_;refine⟨HB1,?_⟩;dsimp only;rw[HC.out,HD.out];rfl
 |ok L=>
  rw[hp]at LY;by_cases hr:1<=w/\w<=400/\1<=h/\h<=400;case neg=>
   have _I:Hid (Cw 13 #[.string t,Iq w,Iq h,.slice sp sn sc] U fun e u'=>e=Rw (.tuple #[.slice none 0 0,Iq 6,Iq 0])/\Hid (Bt U u')):=LY.mono fun e w' q=>by
    obtain⟨hb,q⟩:=q;rcases q with⟨_,q⟩|⟨q,_⟩;·exact⟨q,hb⟩
    ·exact absurd q hr
   clear LY;go_enter func5,ntmps5;go_wp2_with(go_at_call 13;refine _I.mono ?_;rintro e U1 ⟨rfl,HB1⟩);refine bodyPost_ret (results_tmp3 rfl _ _ _) rfl ?_;exact⟨HB1,.inl ⟨hr,rfl⟩⟩
  have hT:=jL (fO hp);have vk:=hT.vl.cnt;have fZ:=hT.pos;obtain⟨W,rfl⟩:∃W:Nat,w=(W:Int):=⟨w.toNat,by omega⟩;obtain⟨H,rfl⟩:∃H:Nat,h=(H:Int):=⟨h.toNat,by omega⟩;have hW:1<=W/\W<=400:=by omega
  have hH:1<=H/\H<=400:=by omega
  have HT:=qH hT;have _I:Hid (Cw 13 #[.string t,Iq W,Iq H,.slice sp sn sc] U fun e u'=>∃pb,e=Rw (.tuple #[Sq pb L.length L.length,Iq 0,Iq 0])/\Hid (Bt U u')/\∃P,Hid (dB L Wd Hf W H bi off sn P L.length)/\Hid (u'.rowIs pb 65 (L.length*10) (lr P))):=LY.mono fun e u' q=>by
   obtain⟨hb,q⟩:=q;rcases q with⟨q,_⟩|⟨_,pb,P,q2,q3,q4,_⟩;·exact absurd hr q
   ·exact⟨pb,q2,hb,P,q4,q3⟩
  have TP2:Hid (∀u,Bt U u->Cw 14 #[.string t] u fun e w'=>∃g cap KV,e=Rw (.tuple #[Sq g L.length cap,Iq 0,Iq 0])/\Hid (Ts w' w'.heap.size g L KV)/\Hid (u.heap.size<=g)/\Hid (Bt u w')):=fun u hu=>by
   have:=wO t E u (hG.cells hu) (hA.below hu) (hE.below hu);rw[hp]at this;refine this.mono fun e w' q=>?_;obtain⟨hb,nv,KV,rfl,hn⟩:=q;obtain⟨g,cap,rfl,hug⟩:∃g cap,nv=Sq g L.length cap/\u.heap.size<=g:=by obtain⟨xs,hx⟩:=hn.nr.row;grind[dK]
   exact⟨g,cap,KV,rfl,hn.ndv (ai _),hug,hb⟩
  have ST:Hid (∀u r g cap KV,Ts u r g L KV->Cw 16 #[Sq g L.length cap] u fun e u'=>∃sb,e=Rw (Sq sb L.length L.length)/\Hid (fg u' sb 0 L.length (fun j=>(gw L j).1) (fun j=>(gw L j).2.1) (fun j=>(gw L j).2.2))/\Hid (u.heap.size<=sb)/\Hid (Bt u u')):=fun u r g cap KV hv=>Be HT.gr.upl vk u r g cap hv;have NW:Hid (∀u,Cw 15 #[Iq W,Iq H] u fun e u'=>∃K M,e=Rw (.tuple #[Pq K,Iq 0])/\Hid (CS 100 42 u' K M (W*H) W H (fun _ _=>bk 0 0 0))/\Hid (u.heap.size<=K/\u.heap.size<=M)/\Hid (Bt u u')):=fun u=>(ZQ W H u hW hH).mono fun e u' ⟨K,M,h1,h2,h3,h4,h5⟩=>⟨K,M,h1,h2,⟨h3,h4⟩,h5⟩;have HTB:=qH ht;clear LY hp hG hA hE hsc hsp ht hT;go_enter func5,ntmps5;go_wp2_with(first
   |(go_at_call 13;refine _I.mono ?_;rintro e u1 ⟨pb,rfl,HB1,P,Th,zA⟩)
   |(go_at_call 14;refine ao (TP2 _ HB1) ?_;rintro e u2 ⟨g,cap,KV,rfl,HN2,gX,HB2⟩)
   |(go_at_call 15;refine ao (NW _) ?_;rintro e u3 ⟨K,M,rfl,zw,HK3,HB3⟩;have HN3:=qH<|HN2.grown (ac HB3))
   |(go_at_call 16;refine ao (ST _ _ _ _ _ HN3) ?_;rintro e u4 ⟨sb,rfl,HW4,HS4,HB4⟩)
   |fail);obtain⟨B,hB⟩:=ag u4.heap.size;obtain⟨u5,hu5⟩:=ag (u4.alloc (.cells #[Pq K,Iq 0,Iq 0,Iq 0,Iq 0,Iq 0,Iq 0,Iq 0] 60));have tU:Hid (R8 u5 B K 0 0 0 0 0 0 0):=by rw[<-hu5,<-hB];exact heap_alloc_new _ _
  have Sb:Hid (Gr u4 u5):=by rw[<-hu5];exact(Gr.refl u4).alloc _
  have h12:=HB2.size;have h23:=HB3.size;have T3:=HB4.size;have _W:=HB1.size;have HU2:=qH<|HB1.trans (HB2.mono _W);have HU3:=qH<|HU2.trans (HB3.mono (by omega));have HU4:=qH<|HU3.trans (HB4.mono (by omega));have HU5:=qH<|HU4.trans (Sb.below.mono (by omega));have hKl:K<B:=by rw[<-hB];exact zz008 zw.klt T3
  have yw:M<B:=by rw[<-hB];exact zz008 zw.cv.lt T3
  have hUB:U.heap.size<=B:=by rw[<-hB];omega
  have hUM:U.heap.size<=M:=by have:=HK3.out.2;omega
  have H35:=qH<|HB4.trans (Sb.below.mono T3);have yb:Hid (CS 100 42 u5 K M (W*H) W H (fun _ _=>bk 0 0 0)):=⟨(H35.block K zw.klt).trans zw.kb,zw.cv.keep (H35.block M zw.cv.lt),zw.ne,zw.hc⟩;have HN5:=qH<|HN3.grown (ac H35);have kV:g<B:=by rw[<-hB];have:=HN3.gl;omega
  have hgM:g≠M:=by have:=HN2.gl;have:=HK3.out.2;omega
  have Yd:=qH<|HW4.below Sb.below;have lq:sb<B:=by rw[<-hB];exact HW4.1
  have hsM:sb≠M:=by have:=HS4.out;have:=zw.cv.lt;omega
  have HP5:=qH<|rowIs_below zA ((HB2.trans (HB3.mono h12)).trans (H35.mono (by omega)));have BI:pb<B:=by rw[<-hB];have:=zA.lt;omega
  have hpM:pb≠M:=by have:=zA.lt;have:=HK3.out.2;omega
  have H5:Hid (u5.heap.size=B+1):=by show _=_;rw[<-hu5,aI,hB]
  rw[hu5,hB];obtain⟨n,hn⟩:=ag L.length;have Fl:=qH hn;have zlK:n<=100:=by omega
  rw[hn];clear hn;clear HB1 HB2 HB3 HB4 HN2 HN3 zw HK3 HW4 HS4 zA Sb HU2 HU3 HU4 H35 hu5 hB _I TP2 ST NW gX;go_loopw[54] (fun iv wr=>∃k:Nat,k<=n/\iv=Iq (k:Int)/\Hid (Cv 42 wr M W H (frK W H L P k))/\Hid (Bt U wr)/\Hid (∀b,b<B->b≠M->wr.heap[b]?=u5.heap[b]?)/\Hid (B<wr.heap.size)/\∃f0 f1 f2 c0 c1 c2 c3,Hid (R8 wr B K f0 f1 f2 c0 c1 c2 c3)) (fun iv _=>n-(intOf iv).toNat);case atStart=>exact⟨0,aZ _,rfl,yb.cv,HU5,fun b _ _=>rfl,by show _<_;rw[H5.out];omega,_,_,_,_,_,_,_,tU⟩
  case round=>
   obtain⟨k,hk,rfl,HV,HU,_s,Sa,f0,f1,f2,c0,c1,c2,c3,HR⟩:=hrel;by_cases hlt:k<n
   ·have aN:(k:Int)<(n:Int):=by omega
    have dj:k<L.length:=by have:=Fl.out;omega
    have HND:=qH<|fun t v hv=>(bU (a:=(az g (k*16+t))) (_s g kV hgM)).trans (HN5.nd k dj t v hv);rw[nR (HN5.len k dj)]at HND;obtain⟨pk,ck,pD,_⟩:=HN5.kid k dj;have HST:Hid (wr.cell? (az sb (k*3))=some (Iq (gw L k).1)/\wr.cell? (az sb (k*3+1))=some (Iq (gw L k).2.1)/\wr.cell? (az sb (k*3+2))=some (Iq (gw L k).2.2)):=by have q:=Yd.2 k dj;rw[bM]at q;have e:=fun o=>bU (a:=(az sb o)) (_s sb lq hsM);exact⟨(e _).trans q.1,(e _).trans q.2.1,(e _).trans q.2.2⟩
    have JX:=qH<|fun t ht=>(bU (a:=(az pb (k*10+t))) (_s pb BI hpM)).trans (bf HP5 dj ht);have hbd:=Th.bd k dj;have hon:=Th.onScr HT (by omega) (by omega) (k+1) k (by omega) dj;have uf:=HT.vl.tl k dj;have f_:=HT.sz;have ur:Hid (frK W H L P (k+1)=pnF W H (gw L k).1 (gw L k).2.1 (gw L k).2.2 (P k 4) (P k 5) (P k 6) (P k 7) (ae L k).kind (aF (ae L k) 6) (aF (ae L k) 7) (aF (ae L k) 8) (aF (ae L k) 10) (ae L k).text (P k 0) (P k 1) (P k 2) (P k 3) (frK W H L P k)):=rfl;rw[pD]at HND;have y0:wr.cell? (az pb (k*10))=some (Iq (P k 0)):=JX 0 (by omega);have y1:=JX 1 (by omega);have y2:=JX 2 (by omega);have y3:=JX 3 (by omega);have y4:=JX 4 (by omega);have y5:=JX 5 (by omega);have y6:=JX 6 (by omega);have y7:=JX 7 (by omega);obtain⟨st0,dk,fk⟩:=HST.out;unfold BX at hon;generalize P k 0=p0 at y0 ur hbd;generalize P k 1=p1 at y1 ur hbd;generalize P k 2=p2 at y2 ur hbd;generalize P k 3=p3 at y3 ur hbd;generalize P k 4=p4 at y4 ur hon;generalize P k 5=p5 at y5 ur hon;generalize P k 6=p6 at y6 ur hon;generalize P k 7=p7 at y7 ur hon;generalize(gw L k).1=s0 at st0 ur;generalize(gw L k).2.1=s1 at dk ur;generalize(gw L k).2.2=s2 at fk ur;generalize((ae L k).kind:Int)=kd at HND ur;generalize aF (ae L k) 0=a0 at HND;generalize aF (ae L k) 1=a1 at HND;generalize aF (ae L k) 2=a2 at HND;generalize aF (ae L k) 3=a3 at HND;generalize aF (ae L k) 4=a4 at HND;generalize aF (ae L k) 5=a5 at HND;generalize aF (ae L k) 6=a6 at HND ur;generalize aF (ae L k) 7=a7 at HND ur;generalize aF (ae L k) 8=a8 at HND ur;generalize aF (ae L k) 9=a9 at HND;generalize aF (ae L k) 10=b0 at HND ur;generalize aF (ae L k) 11=b1 at HND;generalize(ae L k).up=up at HND;generalize(ae L k).kids.length=kl at HND;obtain⟨tx,xH⟩:∃z:ByteArray,⟨(ae L k).text.toArray⟩=z:=⟨_,rfl⟩;have UG:tx.data.toList=(ae L k).text:=by rw[<-xH]
    have Ps:tx.size<=100000:=by rw[<-xH];show(ae L k).text.toArray.size<=_;rw[lp];omega
    rw[xH]at HND;rw[<-UG]at ur;have q0:wr.cell? (az g (k*16))=some (Iq kd):=HND 0 _ rfl;have q1:=HND 1 _ rfl;have q2:=HND 2 _ rfl;have q3:=HND 3 _ rfl;have q4:=HND 4 _ rfl;have q5:=HND 5 _ rfl;have q6:=HND 6 _ rfl;have q7:=HND 7 _ rfl;have q8:=HND 8 _ rfl;have q9:=HND 9 _ rfl;have q10:=HND 10 _ rfl;have q11:=HND 11 _ rfl;have q12:=HND 12 _ rfl;have q13:=HND 13 _ rfl;have q14:=HND 14 _ rfl;have q15:=HND 15 _ rfl;obtain⟨A,hA⟩:=ag wr.heap.size;obtain⟨W1,cC⟩:=ag (wr.alloc (.cells #[Iq kd,Iq a0,Iq a1,Iq a2,Iq a3,Iq a4,Iq a5,Iq a6,Iq a7,Iq a8,Iq a9,Iq b0,Iq b1,.string tx,.slice pk kl ck,Iq up] 63));have HG1:Hid (Gr wr W1):=by rw[<-cC];exact(Gr.refl wr).alloc _
    have xi:W1.heap[A]?=some (.cells #[Iq kd,Iq a0,Iq a1,Iq a2,Iq a3,Iq a4,Iq a5,Iq a6,Iq a7,Iq a8,Iq a9,Iq b0,Iq b1,.string tx,.slice pk kl ck,Iq up] 63 (0,0)):=by rw[<-cC,<-hA];exact heap_alloc_new _ _
    have hr1:R8 W1 B K f0 f1 f2 c0 c1 c2 c3:=(HG1.block Sa).trans HR;have hBA:B<A:=by rw[<-hA];exact Sa
    have x0:=aC HG1.below y0;have x1:=aC HG1.below y1;have x2:=aC HG1.below y2;have x3:=aC HG1.below y3;have x4:=aC HG1.below y4;have x5:=aC HG1.below y5;have x6:=aC HG1.below y6;have x7:=aC HG1.below y7;have v0:=aC HG1.below st0;have v1:=aC HG1.below dk;have v2:=aC HG1.below fk;have r0:W1.cell? (az B 0)=some (Pq K):=by rw[Lib.cell_of_heap (show W1.heap[B]?=_ from hr1)];rfl
    have r1:W1.cell? (az B 1)=some (Iq f0):=by rw[Lib.cell_of_heap (show W1.heap[B]?=_ from hr1)];rfl
    have r2:W1.cell? (az B 2)=some (Iq f1):=by rw[Lib.cell_of_heap (show W1.heap[B]?=_ from hr1)];rfl
    have r3:W1.cell? (az B 3)=some (Iq f2):=by rw[Lib.cell_of_heap (show W1.heap[B]?=_ from hr1)];rfl
    have r4:W1.cell? (az B 4)=some (Iq c0):=by rw[Lib.cell_of_heap (show W1.heap[B]?=_ from hr1)];rfl
    have r5:W1.cell? (az B 5)=some (Iq c1):=by rw[Lib.cell_of_heap (show W1.heap[B]?=_ from hr1)];rfl
    have r6:W1.cell? (az B 6)=some (Iq c2):=by rw[Lib.cell_of_heap (show W1.heap[B]?=_ from hr1)];rfl
    have r7:W1.cell? (az B 7)=some (Iq c3):=by rw[Lib.cell_of_heap (show W1.heap[B]?=_ from hr1)];rfl
    have Y4:∀j,W1.frozen? (az B j)=false:=fun j=>frozen_of_row _ _ _ _ _ hr1;have HR1:=qH hr1;have HN1:=qH xi;clear HND pD xH UG HST JX HR hr1 xi uf;go_wp2_with fail;clear cC hA q0 q1 q2 q3 q4 q5 q6 q7 q8 q9 q10 q11 q12 q13 q14 q15 y0 y1 y2 y3 y4 y5 y6 y7 st0 dk fk;go_region;obtain⟨W2,pU⟩:=ag (((((((W1.setCell (az B 1) (.int .i64 s0)).setCell (az B 2) (.int .i64 s1)).setCell (az B 3) (.int .i64 s2)).setCell (az B 4) (.int .i64 p4)).setCell (az B 5) (.int .i64 p5)).setCell (az B 6) (.int .i64 p6)).setCell (az B 7) (.int .i64 p7)).drew;have HR2:Hid (R8 W2 B K s0 s1 s2 p4 p5 p6 p7):=by rw[<-pU];exact HR1.seven s0 s1 s2 p4 p5 p6 p7
    have HC2:Hid (cN B W1 W2):=by rw[<-pU];exact((((((((cN.refl B W1).set (.inl rfl) 1 _).set (.inl rfl) 2 _).set (.inl rfl) 3 _).set (.inl rfl) 4 _).set (.inl rfl) 5 _).set (.inl rfl) 6 _).set (.inl rfl) 7 _).drewn
    rw[pU];clear pU;have xx:=qH<|(aM.1 HN1).1;have Wm:=qH HC2.size;have HL2:Hid (∀b,b<B->W2.heap[b]?=wr.heap[b]?):=fun b hb=>(HC2.block b (by have:=xx.out;omega) (by omega)).trans (HG1.block (by have:=Sa.out;omega));have HU2:=qH<|HC2.low hUB (by have:=xx.out;omega) (HU.trans (HG1.below.mono (by have:=Sa.out;omega)));have HCS:Hid (CS 100 42 W2 K M (W*H) W H (frK W H L P k)):=⟨(HL2 K hKl).trans ((_s K hKl yb.ne).trans yb.kb),HV.keep (HL2 M yw),yb.ne,yb.hc⟩;have HS:Hid (∀u,cN M W2 u->u.cell? (az B 0)=some (Pq K)/\u.cell? (az B 1)=some (Iq s0)/\u.cell? (az B 2)=some (Iq s1)/\u.cell? (az B 3)=some (Iq s2)/\u.cell? (az B 4)=some (Iq p4)/\u.cell? (az B 5)=some (Iq p5)/\u.cell? (az B 6)=some (Iq p6)/\u.cell? (az B 7)=some (Iq p7)/\u.cell? (az A 0)=some (Iq kd)/\u.cell? (az A 1)=some (Iq a0)/\u.cell? (az A 2)=some (Iq a1)/\u.cell? (az A 3)=some (Iq a2)/\u.cell? (az A 4)=some (Iq a3)/\u.cell? (az A 5)=some (Iq a4)/\u.cell? (az A 6)=some (Iq a5)/\u.cell? (az A 7)=some (Iq a6)/\u.cell? (az A 8)=some (Iq a7)/\u.cell? (az A 9)=some (Iq a8)/\u.cell? (az A 10)=some (Iq a9)/\u.cell? (az A 11)=some (Iq b0)/\u.cell? (az A 12)=some (Iq b1)/\u.cell? (az A 13)=some (.string tx)/\u.cell? (az A 14)=some (.slice pk kl ck)/\u.cell? (az A 15)=some (Iq up)/\u.cell? (az pb (k*10))=some (Iq p0)/\u.cell? (az pb (k*10+1))=some (Iq p1)/\u.cell? (az pb (k*10+2))=some (Iq p2)/\u.cell? (az pb (k*10+3))=some (Iq p3)):=fun u hu=>by
     have e1:=(hu.block B (by have:=xx.out;have:=Wm.out;omega) (by omega)).trans HR2;have e2:=(hu.block A (by have:=xx.out;have:=Wm.out;omega) (by omega)).trans ((HC2.block A xx (by omega)).trans HN1);have e3:=fun o=>bU (a:=(az pb o)) ((hu.block pb (by have:=xx.out;have:=Wm.out;omega) hpM).trans (HC2.block pb (by have:=xx.out;omega) (by omega)));refine⟨?_,?_,?_,?_,?_,?_,?_,?_,?_,?_,?_,?_,?_,?_,?_,?_,?_,?_,?_,?_,?_,?_,?_,?_,(e3 _).trans x0,(e3 _).trans x1,(e3 _).trans x2,(e3 _).trans x3⟩;all_goals first
      |(rw[Lib.cell_of_heap e1];rfl)
      |(rw[Lib.cell_of_heap e2];rfl)
    have PA:Hid (∀u,u=W2\/u=W2.drew->Cw 17 #[.agg #[Pq K,Iq s0,Iq s1,Iq s2,Iq p4,Iq p5,Iq p6,Iq p7],.agg #[Iq kd,Iq a0,Iq a1,Iq a2,Iq a3,Iq a4,Iq a5,Iq a6,Iq a7,Iq a8,Iq a9,Iq b0,Iq b1,.string tx,.slice pk kl ck,Iq up],.agg #[Iq p0,Iq p1,Iq p2,Iq p3]] u fun e u'=>e=Rw (.tuple #[])/\Hid (Cv 42 u' M W H (frK W H L P (k+1)))/\Hid (cN M W2 u')):=fun u hu=>by
     have hcu:cN M W2 u:=by rcases hu with rfl|rfl<;>first|exact cN.refl _ _|exact(cN.refl _ _).drewn
     have __:∀b:Nat,u.heap[b]?=W2.heap[b]?:=by rcases hu with rfl|rfl<;>exact fun _=>rfl
     rw[ur.out];refine(LQ U u (K:=K) (M:=M) (cap:=W*H) ⟨(__ K).trans HCS.kb,HCS.cv.keep (__ M),HCS.ne,HCS.hc⟩ hW hH (PAll.frK hW hH L P k) HTB (hcu.low hUM (by have:=HU2.size;omega) HU2) hUM s0 s1 s2 p4 p5 p6 p7 kd a0 a1 a2 a3 a4 a5 a6 a7 a8 a9 b0 b1 up tx (.slice pk kl ck) p0 p1 p2 p3 Ps ?_ ?_ ?_ ?_ ?_ ?_).mono fun e u' q=>⟨q.1,q.2.1,hcu.trans q.2.2⟩;all_goals omega
    obtain⟨g0,g1,g2,g3,g4,g5,g6,g7,g8,g9,g10,g11,g12,g13,g14,g15,g16,g17,g18,g19,g20,g21,g22,g23,g24,g25,g26,g27⟩:=HS W2 (cN.refl _ _);clear x0 x1 x2 x3 x4 x5 x6 x7 v0 v1 v2 r0 r1 r2 r3 r4 r5 r6 r7 Y4 ur HN1 HR1 f_ hon hbd;go_wp2_with fail;go_region_held(fun W_=>W_.cell? (az B 0)=some (Pq K)/\W_.cell? (az B 1)=some (Iq s0)/\W_.cell? (az B 2)=some (Iq s1)/\W_.cell? (az B 3)=some (Iq s2)/\W_.cell? (az B 4)=some (Iq p4)/\W_.cell? (az B 5)=some (Iq p5)/\W_.cell? (az B 6)=some (Iq p6)/\W_.cell? (az B 7)=some (Iq p7)/\W_.cell? (az A 0)=some (Iq kd)/\W_.cell? (az A 1)=some (Iq a0)/\W_.cell? (az A 2)=some (Iq a1)/\W_.cell? (az A 3)=some (Iq a2)/\W_.cell? (az A 4)=some (Iq a3)/\W_.cell? (az A 5)=some (Iq a4)/\W_.cell? (az A 6)=some (Iq a5)/\W_.cell? (az A 7)=some (Iq a6)/\W_.cell? (az A 8)=some (Iq a7)/\W_.cell? (az A 9)=some (Iq a8)/\W_.cell? (az A 10)=some (Iq a9)/\W_.cell? (az A 11)=some (Iq b0)/\W_.cell? (az A 12)=some (Iq b1)/\W_.cell? (az A 13)=some (.string tx)/\W_.cell? (az A 14)=some (.slice pk kl ck)/\W_.cell? (az A 15)=some (Iq up)/\W_.cell? (az pb (k*10))=some (Iq p0)/\W_.cell? (az pb (k*10+1))=some (Iq p1)/\W_.cell? (az pb (k*10+2))=some (Iq p2)/\W_.cell? (az pb (k*10+3))=some (Iq p3)) (go_keep) (first|(go_at_call 17;refine ao (PA _ (by first|exact .inl rfl|exact .inr rfl)) ?_;rintro e u6 ⟨rfl,HV6,HC6⟩;obtain⟨j0,j1,j2,j3,j4,j5,j6,j7,j8,j9,j10,j11,j12,j13,j14,j15,j16,j17,j18,j19,j20,j21,j22,j23,j24,j25,j26,j27⟩:=HS u6 HC6));all_goals
     have Ij:Hid (R8 u6 B K s0 s1 s2 p4 p5 p6 p7):=(HC6.block B (by have:=xx.out;have:=Wm.out;omega) (by omega)).trans HR2;have HK6:=qH<|fun b h1 h2=>(HC6.block b (by have:=xx.out;have:=Wm.out;omega) h2).trans ((HL2 b h1).trans (_s b h1 h2));have HZ6:Hid (B<u6.heap.size):=by show _<_;have:=HC6.size;have:=xx.out;have:=Wm.out;omega
     have HU6:=qH<|HC6.low hUM (by have:=HU2.size;omega) HU2;go_wp2;go_roundw;case rel=>exact⟨k+1,hlt,by go_num,HV6,HU6,HK6,HZ6,_,_,_,_,_,_,_,Ij⟩
     case measure=>simp[intOf];omega
   ·have aN:¬(k:Int)<(n:Int):=by omega
    obtain rfl:k=n:=by omega
    have hb0:wr.cell? (az B 0)=some (Pq K):=by rw[Lib.cell_of_heap HR.out];rfl
    have Wb:Hid (CS 100 42 wr K M (W*H) W H (frK W H L P k)):=⟨(_s K hKl yb.ne).trans yb.kb,HV,yb.ne,yb.hc⟩;have CE:Hid (Cw 18 #[Pq K] wr fun e w'=>∃N dD,e=Rw (Sq N (W*H) dD)/\Hid (Cv 42 w' N W H (frK W H L P k))/\Hid (wr.heap.size<=N)/\Hid (Bt wr w'/\W*H<=dD/\dD<=9223372036854775807)):=yp wr Wb hW hH;go_wp2_with(go_at_call 18;refine CE.mono ?_;rintro e u6 ⟨N,zgV,rfl,HV6,HN6,kw⟩);refine bodyPost_ret (results_tmp3 rfl _ _ _) rfl ?_;exact⟨HU.trans (kw.out.1.mono HU.size),.inr ⟨W,H,rfl,rfl,hW,hH,N,zgV,P,Th,rfl,by rw[Fl.out];exact HV6,aO HU.size HN6,kw.out.2⟩⟩
theorem Hb(t:ByteArray)(w h:Int)(sp:Option Addr)(sn sc:Nat)(bi off:Nat->Int)(E:Nat->Addr)(U:World)(hG:BQ U E)(hA:jt U E)(hE:BP U)(ht:cG U)(hsc:mg U sp sn bi off)(xj:sn<=4611686018427387904)(hsp:∀a:Addr,sp=some a->a.block<U.heap.size):
 Cw 5 #[.string t,Iq w,Iq h,.slice sp sn sc] U fun e U'=>zaz U U' w h bi off sn (cL t) e:=by
 obtain⟨Wd,Hf,hS⟩:=Jz t;refine(LR t w h sp sn sc bi off E U hG hA hE ht hsc xj hsp Wd Hf hS).mono ?_;rintro e U' ⟨hb,q⟩;refine⟨hb,?_⟩;cases hp:cL t with
 |error x=>rw[hp]at q;exact q
 |ok L=>
  rw[hp]at q;rcases q with q|⟨W,H,q1,q2,q3,q4,N,cap,P,q5,q6,q7⟩;·exact .inl q
  ·exact .inr ⟨W,H,q1,q2,q3,q4,N,cap,P,Wd,Hf,hS L hp,q5,q6,q7.1,q7.2.1⟩
end Go.Proofs.YtiaimhjebnobnaaGreatDoor
namespace Go.Proofs.YtiaimhjebnobnaaGreatDoor
set_option linter.all false
/--zkw R holds,the zdF is f g b now;_T a cell zmp,or zei a blank. -/
def Ov(W H:Nat)(f g b:Int)(c c':Nat->Nat->Ce)(R:Nat->Nat->Prop):Prop:=∀y j,y<H->j<W->(R y j->(c' y j).f=f/\(c' y j).g=g/\(c' y j).b=b)/\(¬R y j->c' y j=c y j\/c' y j=bl (c y j))
section
variable{W H:Nat} {f g b:Int} {c c1 c2:Nat→Nat→Ce} {R S:Nat→Nat→Prop}
theorem Ov.none(h:∀y j,y<H->j<W->¬R y j):Ov W H f g b c c R:=fun y j hy hj=>⟨fun q=>absurd q (h y j hy hj),fun _=>.inl rfl⟩
theorem Ov.trans(h1:Ov W H f g b c c1 R)(h2:Ov W H f g b c1 c2 S):Ov W H f g b c c2 fun y j=>R y j\/S y j:=fun y j hy hj=>by
 obtain⟨a1,a2⟩:=h1 y j hy hj;obtain⟨b1,b2⟩:=h2 y j hy hj;refine⟨fun h=>?_,fun h=>?_⟩
 ·by_cases hs:S y j;·grind
  ·have:=a1 (h.resolve_right hs);rcases b2 hs with e|e<;>rw[e]<;>exact this
 ·rcases b2 (fun q=>h (.inr q))with e|e<;>rw[e];·grind
  ·rcases a2 (fun q=>h (.inl q))with e|e<;>rw[e]<;>exact .inr rfl
theorem Ov.is(h:Ov W H f g b c c1 R)(e:∀y j,y<H->j<W->(R y j↔S y j)):Ov W H f g b c c1 S:=fun y j hy hj=>by rw[<-e y j hy hj];exact h y j hy hj
theorem Ov.fill  l r t d   x  (hx:∀j,(x j).f=f/\(x j).g=g/\(x j).b=b):Ov W H f g b c (Go.Proofs.YtiaimhjebnobnaaGreatDoor.fill c l r t d x) fun y j=>t<=y/\y<d/\l<=j/\j<r:=fun y j hy hj=>by unfold Go.Proofs.YtiaimhjebnobnaaGreatDoor.fill;grind[lK,m_]
end
/--A iX that a clip has. -/
abbrev FM (cx cy ca cb:Int) (p q:Int):Prop:=cx<=p/\p<cx+ca/\cy<=q/\q<cy+cb
structure Ih(cx cy ca cb:Int):Prop where
 x:0<=cx/\cx<=400
 y:0<=cy/\cy<=400
 a:0<=ca/\ca<=400
 b:0<=cb/\cb<=400
section
variable{W H:Nat} (hW:1<=W/\W<=400) (hH:1<=H/\H<=400) {cx cy ca cb:Int} (hc:Ih cx cy ca cb) (f g bd:Int) (c:Nat→Nat→Ce)
theorem Jt(hW:1<=W/\W<=400)(hH:1<=H/\H<=400)(hc:Ih cx cy ca cb){x y a b}(ha:0<=a/\a<=100000)(hb:0<=b/\b<=100000)  q p  (hq:q<H) (hp:p<W):
 ((dG W H x y a b cx cy ca cb).2.1.toNat<=q/\q<((dG W H x y a b cx cy ca cb).2.1+(dG W H x y a b cx cy ca cb).2.2.2).toNat/\(dG W H x y a b cx cy ca cb).1.toNat<=p/\p<((dG W H x y a b cx cy ca cb).1+(dG W H x y a b cx cy ca cb).2.2.1).toNat)↔((x<=p/\p<x+a/\y<=q/\q<y+b)/\FM cx cy ca cb p q):=by
 have hs:=jP (W:=(W:Int)) (H:=(H:Int)) (by omega) (by omega) x y a b cx cy ca cb;have hm:=hs.mem p q;have:=hs.l0;have:=hs.t0;have:=hs.u0;have:=hs.v0;have e1:bn cx=cx:=nT (by have:=hc.x;omega);have e2:bn cy=cy:=nT (by have:=hc.y;omega);have e3:bc ca=ca:=gG (by have:=hc.a;omega);have e4:bc cb=cb:=gG (by have:=hc.b;omega);have e5:=gG ha;have e6:=gG hb;rw[e1,e2,e3,e4,e5,e6]at hm;have e7:(bn x<=p/\p<bn x+a)↔(x<=p/\p<x+a):=by unfold bn;omega
 have e8:(bn y<=q/\q<bn y+b)↔(y<=q/\q<y+b):=by unfold bn;omega
 unfold FM;generalize dG W H x y a b cx cy ca cb=z at*;omega
theorem Ov.fil(hW:1<=W/\W<=400)(hH:1<=H/\H<=400)(hc:Ih cx cy ca cb){x y a b}(ha:0<=a/\a<=100000)(hb:0<=b/\b<=100000):
 Ov W H (kn f) (kn g) (bo bd) c (tu W H c x y a b f g bd cx cy ca cb) fun q p=>(x<=p/\p<x+a/\y<=q/\q<y+b)/\FM cx cy ca cb p q:=
 (Ov.fill _ _ _ _ _ fun _=>⟨rfl,rfl,rfl⟩).is fun q p hq hp=>Jt hW hH hc ha hb q p hq hp
theorem Ov.put(hW:1<=W/\W<=400)(hH:1<=H/\H<=400)(hc:Ih cx cy ca cb)  x y   iK  {wd} (hw:0<=wd/\wd<=2):
 Ov W H (kn f) (kn g) (bo bd) c (rQ W H c x y iK wd f g bd cx cy ca cb) fun q p=>q=y/\(x<=p/\p<x+wd)/\FM cx cy ca cb p q:=by
 unfold rQ Vn;split;·refine(Ov.fill _ _ _ _ _ fun j=>?_).is fun q p hq hp=>(Jt hW hH hc (by omega) (by omega) q p hq hp).trans (by omega);unfold putX YE;(repeat' split)<;>first|exact⟨rfl,rfl,rfl⟩|grind
 grind[Ov.none]
theorem Ov.wrF(hW:1<=W/\W<=400)(hH:1<=H/\H<=400)(hc:Ih cx cy ca cb)  y  :∀  l   x   c,(∀q∈l,0<=q.2/\q.2<=2)->Ov W H (kn f) (kn g) (bo bd) c (Go.Proofs.YtiaimhjebnobnaaGreatDoor.wrF W H f g bd cx cy ca cb y l x c) fun q p=>q=y/\(x<=p/\p<x+ap l)/\FM cx cy ca cb p q
 |[],x,c,_=>Ov.none fun q p _ _=>by grind[ap]
 |q::r,x,c,h=>by have hq:=h q E8;have hr:=(cJ r (fun p hp=>h p (E9 _ hp)) r.length).1;rw[l5]at hr;refine((Ov.put f g bd c hW hH hc x y ⟨q.1.toArray⟩ hq).trans (Ov.wrF hW hH hc y r (x+q.2) _ fun p hp=>h p (E9 _ hp))).is fun y' p _ _=>?_;grind[dF]
/--A zja zdJ Of are zme. -/
theorem Ov.wrL(hW:1<=W/\W<=400)(hH:1<=H/\H<=400)(hc:Ih cx cy ca cb)  x y   m  (hm:∀d∈m,xy d):
 Ov W H (kn f) (kn g) (bo bd) c (Go.Proofs.YtiaimhjebnobnaaGreatDoor.wrL W H f g bd cx cy ca cb x y (aJ m) c) fun q p=>q=y/\(x<=p/\p<x+ap m)/\FM cx cy ca cb p q:=by
 have hb:=dO (aD (aJ m));rw[rJ m hm]at hb;unfold Go.Proofs.YtiaimhjebnobnaaGreatDoor.wrL;split;·exact Ov.none fun q p _ _=>by omega
 grind[rJ,Ov.wrF]
end
/--A text that is so many normal Of wide,at most. -/
def Ny(w:Int)(s:List UInt8):Prop:=∃m,(∀d∈m,xy d)/\s=aJ m/\ap m<=w
theorem nU  n   d  (hd:xy d) (h1:d.2=1):(∀x∈List.replicate n d,xy x)/\ap (List.replicate n d)=n:=by
 refine⟨fun x hx=>by rw[List.eq_of_mem_replicate hx];exact hd,?_⟩;induction n with
 |zero=>rfl
 |succ n ih=>rw[RU,dF,ih,h1];omega
theorem pj  n   b  :aJ (List.replicate n ([b],(1:Int)))=List.replicate n b:=by
 induction n with
 |zero=>rfl
 |succ n ih=>grind[gR]
/--zdN,a zja is as wide as it zmo be. -/
theorem Tx{w al}{s}(hw:0<=w/\w<=100000)(h:Ny w s):∃m,(∀d∈m,xy d)/\tq s (ap (a_ (aD s))) w al=aJ m/\ap m=w:=by
 obtain⟨m,hn,rfl,hm⟩:=h;rw[rJ m hn];unfold tq;have ew:min w 100000=w:=by omega
 rw[ew];split;·exact⟨m,hn,rfl,by omega⟩
 ·obtain⟨n,Ld⟩:∃n,(w-ap m).toNat=n:=⟨_,rfl⟩;have ha:=FQ n al;rw[Ld];obtain⟨a1,a2⟩:=nU (Cd n al) ([32],1) nO rfl;obtain⟨b1,b2⟩:=nU (n-Cd n al) ([32],1) nO rfl;refine⟨List.replicate (Cd n al) ([32],1)++m++List.replicate (n-Cd n al) ([32],1),fun d hd=>?_,?_,?_⟩
  ·rcases jW.1 hd with hd|hd
   ·rcases jW.1 hd with hd|hd;·exact a1 d hd
    ·exact hn d hd
   ·exact b1 d hd
  ·rw[iE,iE,pj,pj]
  ·rw[i_,i_,a2,b2];omega
theorem P6  l   w  (hw:1<=w) (hn:∀c∈l,xy c):∀  f a,∀x∈jG f l w a,Ny w x.T:=by
 have key:∀a,Ny w (c_ l w a).T:=fun a=>by
  simp only[c_];split;·obtain⟨a1,a2⟩:=nU w.toNat ([32],1) nO rfl;exact⟨_,a1,(pj _ _).symm,by omega⟩
  ·exact⟨_,fun c hc=>hn c (ku (lm hc)),rfl,by omega⟩
 intro f;induction f with
 |zero=>intro a x hx;cases hx
 |succ f ih=>
  intro a x hx;simp only[jG]at hx;split at hx;·rw[sZ.1 hx];exact key a
  ·rcases km.1 hx with rfl|hx;·exact key a
   ·exact ih _ x hx
theorem VQ  t   wrap w  (hw:1<=w):∀s∈js t wrap w,Ny w s:=by
 intro s hs;unfold js at hs;split at hs;·obtain⟨x,hx,rfl⟩:=l_.1 hs;unfold bC at hx;rw[if_neg (by omega)]at hx;exact P6 _ w hw (Co _ (wA t)) _ _ x hx
 ·obtain⟨p,hp,rfl⟩:=l_.1 hs;have hn:=Vi (Co _ (wA p));have hb:=vK (dO (aD p));generalize one (a_ (aD p))=l at*;unfold mc;rw[if_neg (by omega)];split;·exact⟨l,hn,rfl,by omega⟩
  ·have eQ:ap (l.take (dy l (w-1)))<=w-1:=by
    have ro:=kQ l (w-1) hb;cases hk:dy l (w-1)with
    |zero=>show(0:Int)<=w-1;omega
    |succ n=>exact(ro.1 n (by omega)).2
   refine⟨l.take (dy l (w-1))++[([226,128,166],1)],fun d hd=>?_,by rw[iE];rfl,?_⟩
   ·rcases jW.1 hd with hd|hd;·exact hn d (lm hd)
    ·rw[sZ.1 hd];exact Qj
   ·rw[i_];show _+1<=w;omega
section
variable{W H:Nat} {cx cy ca cb:Int} (f g bd:Int) (c:Nat→Nat→Ce)
theorem Ov.txK(hW:1<=W/\W<=400)(hH:1<=H/\H<=400)(hc:Ih cx cy ca cb)  x w al  (hw:0<=w/\w<=100000):∀  l   y   c,(∀s∈l,Ny w s)->Ov W H (kn f) (kn g) (bo bd) c (Go.Proofs.YtiaimhjebnobnaaGreatDoor.txK W H f g bd cx cy ca cb x w al l y c) fun q p=>(y<=q/\q<y+l.length)/\(x<=p/\p<x+w)/\FM cx cy ca cb p q
 |[],y,c,_=>Ov.none fun q p _ _=>by grind
 |s::r,y,c,h=>by obtain⟨m,h1,h2,h3⟩:=Tx (al:=al) hw (h s E8);have e:=Ov.wrL f g bd c hW hH hc x y m h1;rw[<-h2,h3]at e;refine(e.trans (Ov.txK hW hH hc x w al hw r (y+1) _ fun p hp=>h p (E9 _ hp))).is fun q p _ _=>?_;grind
theorem Ve:∀r∈([9472,9474,9484,9488,9492,9496]:List Int),xy (enc [r],lW r)/\lW r=1:=by have key:∀r:Int,Good r->lW r=1->r≠10->xy (enc [r],lW r)/\lW r=1:=fun r h1 h2 h3=>⟨Ay r h1 (by rw[fJ,h2];omega) h3,h2⟩;intro r hr;simp only[km,List.not_mem_nil,or_false]at hr;rcases hr with rfl|rfl|rfl|rfl|rfl|rfl<;>exact key _ ⟨.inl (by omega),rfl⟩ (by decide+kernel) (by omega)
theorem _P  r   t  (hr:r∈([9472,9474,9484,9488,9492,9496]:List Int)) (e:enc [r]=t):xy (t,1):=by grind[Ve]
theorem sP  t  :∀n,Lib.repeatL t n=aJ (List.replicate n (t,(1:Int)))
 |0=>rfl
 |n+1=>by rw[RU,gR,<-sP t n];rfl
/--A zrq of a zgS. -/
theorem Ju  l r  (hl:xy (l,1)) (hr:xy (r,1))  n  :∃m,(∀d∈m,xy d)/\(lU ⟨l.toArray⟩ ⟨r.toArray⟩ n).data.toList=aJ m/\ap m=n+2:=by
 obtain⟨a1,a2⟩:=nU n ([226,148,128],1) (_P 9472 _ (by simp) (by decide+kernel)) rfl;refine⟨(l,1)::(List.replicate n ([226,148,128],1)++[(r,1)]),fun d hd=>?_,?_,?_⟩
 ·rcases km.1 hd with rfl|hd;·exact hl
  ·rcases jW.1 hd with hd|hd;·exact a1 d hd
   ·rw[sZ.1 hd];exact hr
 ·rw[gR,iE,<-sP];unfold lU;simp[aJ]
 ·rw[dF,i_,a2];show 1+((n:Int)+1)=_;omega
theorem Ov.bdK(hW:1<=W/\W<=400)(hH:1<=H/\H<=400)(hc:Ih cx cy ca cb)  x rt y  :∀k,Ov W H (kn f) (kn g) (bo bd) c (Go.Proofs.YtiaimhjebnobnaaGreatDoor.bdK W H f g bd cx cy ca cb x rt y c k) fun q p=>(y<q/\q<=y+k)/\(p=x\/p=rt)/\FM cx cy ca cb p q
 |0=>Ov.none fun q p _ _=>by omega
 |k+1=>by
  have hb:∀d∈[(([226,148,130],1):List UInt8×Int)],xy d:=fun d hd=>by rw[sZ.1 hd];exact _P 9474 _ (by simp) (by decide+kernel)
  have e1:aJ [(([226,148,130],1):List UInt8×Int)]=[226,148,130]:=rfl;have e2:ap [(([226,148,130],1):List UInt8×Int)]=1:=rfl;have h1:=Ov.wrL f g bd (Go.Proofs.YtiaimhjebnobnaaGreatDoor.bdK W H f g bd cx cy ca cb x rt y c k) hW hH hc x (y+1+k) _ hb;have h2:=Ov.wrL f g bd (Go.Proofs.YtiaimhjebnobnaaGreatDoor.wrL W H f g bd cx cy ca cb x (y+1+k) [226,148,130] (Go.Proofs.YtiaimhjebnobnaaGreatDoor.bdK W H f g bd cx cy ca cb x rt y c k)) hW hH hc rt (y+1+k) _ hb;rw[e1,e2]at h1 h2;refine(((Ov.bdK hW hH hc x rt y k).trans h1).trans h2).is fun q p _ _=>?_;omega
theorem Ov.bdF(hW:1<=W/\W<=400)(hH:1<=H/\H<=400)(hc:Ih cx cy ca cb)  x y w hh  (hw:2<=w) (Ur:2<=hh):Ov W H (kn f) (kn g) (bo bd) c (Go.Proofs.YtiaimhjebnobnaaGreatDoor.bdF W H f g bd cx cy ca cb x y w hh c) fun q p=>(x<=p/\p<x+w/\y<=q/\q<y+hh)/\(p=x\/p=x+w-1\/q=y\/q=y+hh-1)/\FM cx cy ca cb p q:=by obtain⟨n,hn⟩:∃n:Nat,(w-2).toNat=n:=⟨_,rfl⟩;obtain⟨m1,a1,a2,a3⟩:=Ju [226,148,140] [226,148,144] (_P 9484 _ (by simp) (by decide+kernel)) (_P 9488 _ (by simp) (by decide+kernel)) n;obtain⟨m2,b1,b2,b3⟩:=Ju [226,148,148] [226,148,152] (_P 9492 _ (by simp) (by decide+kernel)) (_P 9496 _ (by simp) (by decide+kernel)) n;have h1:=Ov.wrL f g bd c hW hH hc x y m1 a1;rw[<-a2,a3]at h1;have h2:=h1.trans (Ov.bdK f g bd _ hW hH hc x (x+w-1) y (hh-2).toNat);have h3:=Ov.wrL f g bd (Go.Proofs.YtiaimhjebnobnaaGreatDoor.bdK W H f g bd cx cy ca cb x (x+w-1) y (Go.Proofs.YtiaimhjebnobnaaGreatDoor.wrL W H f g bd cx cy ca cb x y (lU ⟨#[226,148,140]⟩ ⟨#[226,148,144]⟩ n).data.toList c) (hh-2).toNat) hW hH hc x (y+hh-1) m2 b1;rw[<-b2,b3]at h3;unfold Go.Proofs.YtiaimhjebnobnaaGreatDoor.bdF;rw[hn];refine(h2.trans h3).is fun q p _ _=>?_;omega
end
/--How many zmf a text Z0. -/
def wk(t:List UInt8)(wrap w hh:Int):Nat:=if w<1 then 0 else min (js t wrap w).length hh.toNat
/--zfr a bJ zdA at a iX? -/
def _S(kd a6 a8 b0:Int)(t:List UInt8)(x y w hh cx cy ca cb p q:Int):Bool:=
 if cx<=p/\p<cx+ca/\cy<=q/\q<cy+cb then(if 0<b0 then true else if kd=5 then decide (q-y<wk t a8 w hh)else decide ((kd=3/\a6=1/\2<=w/\2<=hh)/\(p=x\/p=x+w-1\/q=y\/q=y+hh-1)))else false
/--J7 can be seen of a L5 on the zjo zrb zju it. -/
def RcB(x y w hh cx cy ca cb:Int):Prop:=∀p q,FM cx cy ca cb p q->x<=p/\p<x+w/\y<=q/\q<y+hh
theorem Ov.pnF{W H}(hW:1<=W/\W<=400)(hH:1<=H/\H<=400){f g bd cx cy ca cb kd a6 a7 a8 b0}{t}{x y w hh}{c}(hc:Ih cx cy ca cb)(hr:RcB x y w hh cx cy ca cb)(hw:0<=w/\w<=100000)(Ur:0<=hh/\hh<=100000):
 Ov W H (kn f) (kn g) (bo bd) c (Go.Proofs.YtiaimhjebnobnaaGreatDoor.pnF W H f g bd cx cy ca cb kd a6 a7 a8 b0 t x y w hh c) fun q p=>_S kd a6 a8 b0 t x y w hh cx cy ca cb p q=true:=by
 have h1:Ov W H (kn f) (kn g) (bo bd) c (if 0<b0 then tu W H c x y w hh f g bd cx cy ca cb else c) fun q p=>0<b0/\FM cx cy ca cb p q:=by
  split;·exact(Ov.fil f g bd c hW hH hc hw Ur).is fun q p _ _=>⟨fun h=>⟨by assumption,h.2⟩,fun h=>⟨hr _ _ h.2,h.2⟩⟩
  ·exact Ov.none fun q p _ _=>by omega
 have hl:∀n:Nat,(((js t a8 w).take n).length:Int)=min (js t a8 w).length n:=fun n=>by rw[cX];omega
 unfold Go.Proofs.YtiaimhjebnobnaaGreatDoor.pnF;split
 ·rename_i hk;refine(h1.trans (Ov.bdF f g bd _ hW hH hc x y w hh (by omega) (by omega))).is fun q p _ _=>?_;have hx:=hr p q;unfold _S;unfold FM at*;split
  ·split;·simp;omega
   ·rw[if_neg (by omega),decide_eq_true_eq];omega
  ·simp;omega
 ·split
  ·rename_i hn hk;refine(h1.trans (Ov.txK f g bd hW hH hc x w a7 hw _ y _ fun s hs=>VQ t a8 w hk.2 s (lm hs))).is fun q p _ _=>?_;have hx:=hr p q;rw[hl];unfold _S wk;unfold FM at*;rw[if_neg (c:=w<1) (by omega)];split
   ·split;·simp;omega
    ·rw[if_pos (by omega),decide_eq_true_eq];omega
   ·simp;omega
  ·rename_i hn hk;refine h1.is fun q p _ _=>?_;have hx:=hr p q;unfold _S wk;unfold FM at*;split
   ·split;·simp;omega
    ·split;·rw[decide_eq_true_eq,if_pos (by omega)];omega
     ·rw[decide_eq_true_eq];omega
   ·simp;omega
/--The last one of zmr ahead of k that has it. -/
def ft(Fq:Nat->Bool):Nat->Int
 |0=>-1
 |k+1=>if Fq k=true then(k:Int)else ft Fq k
theorem DH  Fq  :∀k,-1<=ft Fq k/\ft Fq k<k
 |0=>⟨li _,by show(-1:Int)<0;omega⟩
 |k+1=>by have:=DH Fq k;unfold ft;split<;>omega
/--zfr bJ k zdA at p q? -/
def ma(L:List Nd)(P:Nat->Nat->Int)(p q:Int)(k:Nat):Bool:=_S (ae L k).kind (aF (ae L k) 6) (aF (ae L k) 8) (aF (ae L k) 10) (ae L k).text (P k 0) (P k 1) (P k 2) (P k 3) (P k 4) (P k 5) (P k 6) (P k 7) p q
theorem _d  L   k  :kn (gw L k).1=(gw L k).1/\kn (gw L k).2.1=(gw L k).2.1/\bo (gw L k).2.2=(gw L k).2.2:=⟨Xo _ _,Xo _ _,Yp _ _⟩
/--P1: a cell has the zdF of the last one that Z0 zmq;else it is a blank. -/
theorem CY{W H:Nat}(hW:1<=W/\W<=400)(hH:1<=H/\H<=400){L}{P}(hc:∀k,k<L.length->Ih (P k 4) (P k 5) (P k 6) (P k 7)/\RcB (P k 0) (P k 1) (P k 2) (P k 3) (P k 4) (P k 5) (P k 6) (P k 7)/\(0<=P k 2/\P k 2<=100000)/\(0<=P k 3/\P k 3<=100000)){q p}(hq:q<H)(hp:p<W):∀k,k<=L.length->
 (ft (ma L P p q) k<0->frK W H L P k q p=bk 0 0 0)/\(0<=ft (ma L P p q) k->(frK W H L P k q p).f=(gw L (ft (ma L P p q) k).toNat).1/\(frK W H L P k q p).g=(gw L (ft (ma L P p q) k).toNat).2.1/\(frK W H L P k q p).b=(gw L (ft (ma L P p q) k).toNat).2.2)
 |0,_=>⟨fun _=>rfl,fun h=>absurd h (by show¬(0:Int)<=-1;omega)⟩
 |k+1,hk=>by
  obtain⟨i1,i2⟩:=CY hW hH hc hq hp k (by omega);obtain⟨a1,a2,a3,a4⟩:=hc k (by omega);have ho:=Ov.pnF (f:=(gw L k).1) (g:=(gw L k).2.1) (bd:=(gw L k).2.2) (kd:=(ae L k).kind) (a6:=aF (ae L k) 6) (a7:=aF (ae L k) 7) (a8:=aF (ae L k) 8) (b0:=aF (ae L k) 10) (t:=(ae L k).text) (c:=frK W H L P k) hW hH a1 a2 a3 a4 q p hq hp;obtain⟨s1,s2,s3⟩:=_d L k;rw[s1,s2,s3]at ho;unfold ft frK;by_cases h:ma L P p q k=true;·rw[if_pos h,lY];exact⟨fun h=>by omega,fun _=>ho.1 h⟩
  ·rw[if_neg h];rcases ho.2 h with e|e<;>rw[e];·exact⟨i1,i2⟩
   ·refine⟨fun h=>by rw[i1 h];rfl,i2⟩
end Go.Proofs.YtiaimhjebnobnaaGreatDoor
namespace Go.Proofs.YtiaimhjebnobnaaGreatDoor
open Go.RowKit Go.Sort Go.Proofs.Tryz
set_option linter.all false
set_option maxRecDepth 100000 in
set_option maxHeartbeats 8000000 in
theorem QO(kd:Int)(ab:Nat)(t:ByteArray)(kv:Value)(up a8 w h:Int)(U:World)(hc8:U.cell? (az ab 8)=some (Iq a8))(hs:t.size<=4000)(hw:0<=w/\w<=100000)(hh:0<=h/\h<=100000):
 Cw 21 #[Xt kd ab t kv up,Iq w,Iq h] U fun e U'=>∃p c,e=Rw (.slice p (wk t.data.toList a8 w h) c)/\Hid (Bt U U'):=by
 have kD:prog.follows .mixedOrders=true:=by kernel_rfl
 unfold Xt;obtain⟨i0,hi,eG,fs,gd⟩:=info_parts ug;obtain⟨A,hA⟩:=ag U.heap.size;obtain⟨W1,cC⟩:=ag (U.alloc (.cells #[Iq kd,Sq ab 12 12,.string t,kv,Iq up] 77));have HB1:Hid (Bt U W1):=by rw[<-cC];exact((Gr.refl U).alloc _).below
 have b9:W1.heap[A]?=some (.cells #[Iq kd,Sq ab 12 12,.string t,kv,Iq up] 77 (0,0)):=by rw[<-cC,<-hA];exact heap_alloc_new _ _
 have z1:W1.cell? (az A 1)=some (Sq ab 12 12):=by rw[Lib.cell_of_heap b9];rfl
 have z2:W1.cell? (az A 2)=some (.string t):=by rw[Lib.cell_of_heap b9];rfl
 have y8:=aC HB1 hc8;obtain⟨H,rfl⟩:∃H:Nat,h=(H:Int):=⟨h.toNat,by omega⟩;clear b9 hc8;unfold wk js;by_cases w1:w<1;·rw[if_pos w1];go_enter func21,ntmps21;go_wp2;go_ret;simp_all
 rw[if_neg w1,lY];by_cases q8:a8=1
 ·have e8:(a8==1)=true:=by rw[q8];rfl
  rw[if_pos q8,zh];have LN:Hid (∀u,Cw 45 #[.string t,Iq w] u fun e u'=>∃p c,e=Rw (.slice p (bC (a_ (aD t.data.toList)) w).length c)/\Hid (∀i,i<(bC (a_ (aD t.data.toList)) w).length->∃b x,p=some (az b 0)/\b<u'.heap.size/\u'.cell? (az b (i*5))=some (.string x))/\Hid (Bt u u')):=fun u=>by
   refine(vZ t w u (by omega) (by omega) (by omega)).mono ?_;rintro e u' ⟨v,rfl,ho,hb⟩;rcases dK ho with⟨rfl,h0⟩|⟨g',dD,rfl,_,hg,_⟩;·exact⟨none,0,by rw[h0],fun i hi=>by omega,hb⟩
   ·refine⟨_,dD,rfl,fun i hi=>⟨g',⟨((bC (a_ (aD t.data.toList)) w)[i]).T.toArray⟩,rfl,hg,?_⟩,hb⟩;have a0:=ho.cells (g:=g') rfl (i*5+0) _ (rD _ i hi 0 _ rfl);have e0:((az g' 0):Addr).add (i*5)=(az g' (i*5)):=by unfold Addr.add;split<;>simp_all
    grind
  obtain⟨n,hn⟩:=ag ((bC (a_ (aD t.data.toList)) w).length);rw[hn]at LN⊢;obtain⟨N,hN⟩:=ag (min n H);rw[hN];clear hn q8;go_enter func21,ntmps21;go_wp2_with(go_at_call 45;refine(LN _).mono ?_;rintro e u5 ⟨p,c,rfl,HL,io⟩);have HB:=qH<|HB1.trans (io.mono HB1.size);clear LN;go_loopw[7,9] (fun v iv wr=>∃(i:Nat) (xs:List Value),iv=Iq (i:Int)/\i<=N/\wr.ownsRow u5.heap.size 9 1 v i xs/\Bt u5 wr) (fun _ iv _=>N-(intOf iv).toNat);case atStart=>exact⟨0,[],rfl,aZ _,gF _ _ _ _,aj _ _⟩
  case round=>
   obtain⟨i,xs,rfl,BE,bu,hbw⟩:=hrel;by_cases hlt:i<N
   ·have q1:(i:Int)<(n:Int):=by omega
    have q2:(i:Int)<(H:Int):=by omega
    obtain⟨b,x,rfl,hb,hc⟩:=HL i (by omega);have hc:=(hbw.cell (p:=(az b _)) hb).trans hc;go_wp2_with(at_builtin;refine MB hi eG fs gd bu hbw [.string x] rfl _ _ rfl underlying78 ⟨rfl,by decide,by decide⟩ rfl rfl ⟨rfl,rfl⟩ (by omega) ?_);intro v' w1 bD hb1;clear bu hbw hc;go_wp2;grind[intOf]
   ·obtain rfl:i=N:=by omega
    obtain⟨p',c',rfl⟩:=dQ bu;by_cases q1:i<n
    ·have q1':(i:Int)<(n:Int):=by omega
     have q2':¬(i:Int)<(H:Int):=by omega
     go_wp2;go_ret;exact⟨⟨_,_,rfl⟩,by subst hA;exact HB.trans (hbw.mono HB.size)⟩
    ·have q1':¬(i:Int)<(n:Int):=by omega
     go_wp2;go_ret;exact⟨⟨_,_,rfl⟩,by subst hA;exact HB.trans (hbw.mono HB.size)⟩
 ·have e8:(a8==1)=false:=by simp;exact q8
  rw[if_neg q8,zh];have PG:Hid (∀u,Cw 46 #[.string t] u fun e u'=>∃p c,e=Rw (.slice p (bQ t.data.toList).length c)/\Hid (∀i,i<(bQ t.data.toList).length->∃b x,p=some (az b 0)/\b<u'.heap.size/\x.size<=4000/\u'.cell? (az b i)=some (.string x))/\Hid (Bt u u')):=fun u=>by
   refine(jK t u (by omega)).mono ?_;rintro e u' ⟨p,c,rfl,⟨b,h1,h2,h3⟩,hb⟩;refine⟨p,c,rfl,fun i hi=>⟨b,⟨((bQ t.data.toList)[i]).toArray⟩,h1,h2,?_,h3 i _ (eR hi)⟩,hb⟩;have:=vR t.data.toList _ (lX hi);have hl:t.data.toList.length=t.size:=by rw[fV];rfl
   show((bQ t.data.toList)[i]).toArray.size<=_;grind
  have CU:Hid (∀x:ByteArray,x.size<=4000->∀u,Cw 47 #[.string x,Iq w] u fun e u'=>∃z,e=Rw (.string z)/\Hid (Bt u u')):=fun x hx u=>(QJ x w u (by omega) (by omega) (by omega)).mono fun e u' q=>⟨_,q.1,q.2⟩;obtain⟨n,hn⟩:=ag ((bQ t.data.toList).length);have hnb:n<=4001:=by
   have:=Ec t.data.toList;have hl:t.data.toList.length=t.size:=by rw[fV];rfl
   omega
  rw[hn]at PG⊢;obtain⟨N,hN⟩:=ag (min n H);rw[hN];clear hn q8;go_enter func21,ntmps21;go_wp2_with(go_at_call 46;refine(PG _).mono ?_;rintro e u5 ⟨p,c,rfl,HL,io⟩);have HB:=qH<|HB1.trans (io.mono HB1.size);clear PG;go_loopw[7,11] (fun v iv wr=>∃(i:Nat) (xs:List Value),iv=Iq (i:Int)/\i<=N/\Hid (wr.ownsRow u5.heap.size 9 1 v i xs)/\Hid (Bt u5 wr)) (fun _ iv _=>N-(intOf iv).toNat);case atStart=>exact⟨0,[],rfl,aZ _,gF _ _ _ _,aj _ _⟩
  case round=>
   obtain⟨i,xs,rfl,BE,HO,HW⟩:=hrel;by_cases hlt:i<N
   ·have q1:(i:Int)<(n:Int):=by omega
    have q2:(i:Int)<(H:Int):=by omega
    obtain⟨b,x,rfl,hb,hx,hc⟩:=HL i (by omega);have hc:=(HW.cell (p:=(az b _)) hb).trans hc;have CX:=qH (CU x hx);go_wp2_with(first|(go_at_call 47;refine(CX _).mono ?_;rintro e u6 ⟨z,rfl,kw⟩)|(at_builtin;refine MB hi eG fs gd (AA HO.out kw.out) (HW.out.trans (kw.out.mono HW.out.size)) [.string z] rfl _ _ rfl underlying78 ⟨rfl,by decide,by decide⟩ rfl rfl ⟨rfl,rfl⟩ (by omega) ?_));intro v' w1 bD hb1;clear HO HW hc;go_wp2;go_roundw;case rel=>exact⟨i+1,_,by go_num,hlt,bD,hb1⟩
    grind[intOf]
   ·obtain rfl:i=N:=by omega
    obtain⟨p',c',rfl⟩:=dQ HO.out;by_cases q1:i<n
    ·have q1':(i:Int)<(n:Int):=by omega
     have q2':¬(i:Int)<(H:Int):=by omega
     go_wp2;go_ret;exact⟨⟨_,_,rfl⟩,by subst hA;exact HB.trans (HW.mono HB.size)⟩
    ·have q1':¬(i:Int)<(n:Int):=by omega
     go_wp2;go_ret;exact⟨⟨_,_,rfl⟩,by subst hA;exact HB.trans (HW.mono HB.size)⟩
end Go.Proofs.YtiaimhjebnobnaaGreatDoor
namespace Go.Proofs.YtiaimhjebnobnaaGreatDoor
open Go.RowKit Go.Sort Go.Proofs.Tryz
set_option linter.all false
set_option maxRecDepth 100000 in
set_option maxHeartbeats 8000000 in
theorem Ou(x y w h p q:Int)(U:World)(hx:-1000000000000<=x/\x<=1000000000000)(hy:-1000000000000<=y/\y<=1000000000000)(hw:0<=w/\w<=100000)(hh:0<=h/\h<=100000):
 Cw 23 #[.agg #[Iq x,Iq y,Iq w,Iq h],Iq p,Iq q] U fun e U'=>∃z,e=Rw (Iq z)/\(0<z↔(p=x\/p=x+w-1\/q=y\/q=y+h-1))/\Hid (Bt U U'):=by
 have e1:IntKind.i64.wrap (x+w)=x+w:=IntWalk.i64_in _ (by omega);have e2:IntKind.i64.wrap (x+w-1)=x+w-1:=IntWalk.i64_in _ (by omega);have e3:IntKind.i64.wrap (y+h)=y+h:=IntWalk.i64_in _ (by omega);have e4:IntKind.i64.wrap (y+h-1)=y+h-1:=IntWalk.i64_in _ (by omega);obtain⟨A,hA⟩:=ag U.heap.size;obtain⟨W1,cC⟩:=ag (U.alloc (.cells #[Iq x,Iq y,Iq w,Iq h] 73));have HB1:Hid (Bt U W1):=by rw[<-cC];exact((Gr.refl U).alloc _).below
 have b9:W1.heap[A]?=some (.cells #[Iq x,Iq y,Iq w,Iq h] 73 (0,0)):=by rw[<-cC,<-hA];exact heap_alloc_new _ _
 have z0:W1.cell? (az A 0)=some (Iq x):=by rw[Lib.cell_of_heap b9];rfl
 have z1:W1.cell? (az A 1)=some (Iq y):=by rw[Lib.cell_of_heap b9];rfl
 have z2:W1.cell? (az A 2)=some (Iq w):=by rw[Lib.cell_of_heap b9];rfl
 have z3:W1.cell? (az A 3)=some (Iq h):=by rw[Lib.cell_of_heap b9];rfl
 clear b9;obtain⟨a,ha⟩:=ag (p==x);obtain⟨b,hb⟩:=ag (p==x+w-1);obtain⟨c,hc⟩:=ag (q==y);obtain⟨d,hd⟩:=ag (q==y+h-1);cases a<;>cases b<;>cases c<;>cases d;all_goals go_enter func23,ntmps23;go_wp2;go_ret;refine⟨_,rfl,?_,HB1⟩;simp only[beq_iff_eq,beq_eq_false_iff_ne,ne_eq]at ha hb hc hd;omega
set_option maxRecDepth 100000 in
set_option maxHeartbeats 8000000 in
theorem zP(kd:Int)(ab:Nat)(t:ByteArray)(kv:Value)(up a6 x y w h:Int)(U:World)(_1:U.cell? (az ab 6)=some (Iq a6)):
 Cw 22 #[Xt kd ab t kv up,.agg #[Iq x,Iq y,Iq w,Iq h]] U fun e U'=>e=Rw (.bool (decide (kd=3/\a6=1/\2<=w/\2<=h)))/\Hid (Bt U U'):=by
 unfold Xt;obtain⟨A,hA⟩:=ag U.heap.size;obtain⟨W1,cC⟩:=ag ((U.alloc (.cells #[Iq kd,Sq ab 12 12,.string t,kv,Iq up] 77)).alloc (.cells #[Iq x,Iq y,Iq w,Iq h] 73));have HB1:Hid (Bt U W1):=by rw[<-cC];exact(((Gr.refl U).alloc _).alloc _).below
 have b9:W1.heap[A]?=some (.cells #[Iq kd,Sq ab 12 12,.string t,kv,Iq up] 77 (0,0)):=by rw[<-cC,<-hA,du _ _ _ (by simp_all)];exact heap_alloc_new _ _
 have WM:W1.heap[A+1]?=some (.cells #[Iq x,Iq y,Iq w,Iq h] 73 (0,0)):=by rw[<-cC,<-hA,<-World.size_alloc];exact heap_alloc_new _ _
 have z0:W1.cell? (az A 0)=some (Iq kd):=by rw[Lib.cell_of_heap b9];rfl
 have z1:W1.cell? (az A 1)=some (Sq ab 12 12):=by rw[Lib.cell_of_heap b9];rfl
 have r2:W1.cell? (az (A+1) 2)=some (Iq w):=by rw[Lib.cell_of_heap WM];rfl
 have r3:W1.cell? (az (A+1) 3)=some (Iq h):=by rw[Lib.cell_of_heap WM];rfl
 have y6:=aC HB1 _1;clear b9 WM _1;obtain⟨a,ha⟩:=ag (kd==3);obtain⟨b,hb⟩:=ag (a6==1);obtain⟨r,hr⟩:=ag (decide (kd=3/\a6=1/\2<=w/\2<=h));have HE:r=(a&&(b&&(decide (2<=w)&&decide (2<=h)))):=by rw[<-hr,<-ha,<-hb];simp only[Bool.decide_and];rfl
 rw[hr];dsimp only[Bt]at HB1⊢;rw[hA]at HB1⊢;clear hr;cases a<;>cases b<;>by_cases hw:2<=w<;>by_cases hh:2<=h;all_goals simp only[hw,hh,decide_true,decide_false,Bool.and_true,Bool.and_false]at HE;subst HE;go_enter func22,ntmps22;go_wp2;go_ret;simp_all
set_option maxRecDepth 100000 in
set_option maxHeartbeats 8000000 in
theorem FX{L:List Nd}(g cap pb k:Nat)(hk:k<L.length)(P:Nat->Nat->Int)(p q:Int)(U:World)(hN:ju U g L.length (ae L))(hR:U.rowIs pb 75 (L.length*10) (lr P))(uf:(ae L k).text.length<=4000)(hLn:L.length<=100)
 (hC:Ih (P k 4) (P k 5) (P k 6) (P k 7)) (hw:0<=P k 2/\P k 2<=100000) (hh:0<=P k 3/\P k 3<=100000) (hx:-1000000000000<=P k 0/\P k 0<=1000000000000) (hy:-1000000000000<=P k 1/\P k 1<=1000000000000) (hp:0<=p/\p<=400) (hq:0<=q/\q<=400):
 Cw 9 #[Sq g L.length cap,Sq pb L.length L.length,Iq (k:Int),Iq p,Iq q] U fun e U'=>e=Rw (.bool (ma L P p q k))/\Hid (Bt U U'):=by
 have kD:prog.follows .mixedOrders=true:=by kernel_rfl
 have HO:Hid (∀u,Cw 20 #[.agg #[Iq (P k 4),Iq (P k 5),Iq (P k 6),Iq (P k 7)],Iq p,Iq q] u fun e w'=>e=Rw (.bool (decide (P k 4<=p/\p<P k 4+P k 6/\P k 5<=q/\q<P k 5+P k 7)))/\Hid (Bt u w')):=fun u=>(Hh _ _ _ _ p q u).mono fun e w' z=>⟨by rw[z.1];unfold yB;rw[nT (n:=P k 4) (by have:=hC.x;omega),nT (n:=P k 5) (by have:=hC.y;omega),gG (n:=P k 6) (by have:=hC.a;omega),gG (n:=P k 7) (by have:=hC.b;omega)],z.2.below⟩;obtain⟨ab,kv,hn⟩:=hN.nd k hk;obtain⟨kp,kc,pD,-⟩:=hn.kids;subst pD;have Uv:(k:Int)<(L.length:Int):=by omega
 have y6:U.cell? (az ab 6)=some (Iq (aF (ae L k) 6)):=hn.att 6 (by omega);have y8:U.cell? (az ab 8)=some (Iq (aF (ae L k) 8)):=hn.att 8 (by omega);have y10:U.cell? (az ab 10)=some (Iq (aF (ae L k) 10)):=hn.att 10 (by omega);have HU:Hid (∀u,Bt U u->(u.cell? (az g (k*5))=some (Iq ((ae L k).kind:Int))/\u.cell? (az g (k*5+1))=some (Sq ab 12 12)/\u.cell? (az g (k*5+2))=some (.string ⟨(ae L k).text.toArray⟩)/\u.cell? (az g (k*5+3))=some (.slice kp (ae L k).kids.length kc)/\u.cell? (az g (k*5+4))=some (Iq (ae L k).up))/\(u.cell? (az pb (k*10))=some (Iq (P k 0))/\u.cell? (az pb (k*10+1))=some (Iq (P k 1))/\u.cell? (az pb (k*10+2))=some (Iq (P k 2))/\u.cell? (az pb (k*10+3))=some (Iq (P k 3))/\u.cell? (az pb (k*10+4))=some (Iq (P k 4))/\u.cell? (az pb (k*10+5))=some (Iq (P k 5))/\u.cell? (az pb (k*10+6))=some (Iq (P k 6))/\u.cell? (az pb (k*10+7))=some (Iq (P k 7)))/\u.cell? (az ab 6)=some (Iq (aF (ae L k) 6))/\u.cell? (az ab 8)=some (Iq (aF (ae L k) 8))/\u.cell? (az ab 10)=some (Iq (aF (ae L k) 10))):=fun u hu=>by have hc:=fun t ht=>aC hu (bf hR hk (t:=t) ht);exact⟨⟨aC hu hn.c0,aC hu hn.c1,aC hu hn.c2,aC hu hn.c3,aC hu hn.c4⟩,⟨hc 0 (by omega),hc 1 (by omega),hc 2 (by omega),hc 3 (by omega),hc 4 (by omega),hc 5 (by omega),hc 6 (by omega),hc 7 (by omega)⟩,aC hu y6,aC hu y8,aC hu y10⟩
 have Ps:(⟨(ae L k).text.toArray⟩:ByteArray).size<=4000:=by show(ae L k).text.toArray.size<=_;rw[lp];exact uf
 have UG:(⟨(ae L k).text.toArray⟩:ByteArray).data.toList=(ae L k).text:=by simp
 obtain⟨-,⟨-,-,-,-,p4,p5,p6,p7⟩,-⟩:=HU U (aj _ _);unfold ma;generalize(ae L k).up=up at*;generalize(ae L k).kids.length=kl at*;generalize((ae L k).kind:Int)=kd at*;generalize aF (ae L k) 6=a6 at*;generalize aF (ae L k) 8=a8 at*;generalize aF (ae L k) 10=b0 at*;have xH:∃tx:ByteArray,(⟨(ae L k).text.toArray⟩:ByteArray)=tx:=⟨_,rfl⟩;obtain⟨tx,xH⟩:=xH;rw[xH]at Ps UG HU;rw[<-UG];have X_:Hid (∀u w h,0<=w->w<=100000->0<=h->h<=100000->u.cell? (az ab 8)=some (Iq a8)->Cw 21 #[.agg #[Iq kd,Sq ab 12 12,.string tx,.slice kp kl kc,Iq up],Iq w,Iq h] u fun e u'=>∃p c,e=Rw (.slice p (wk tx.data.toList a8 w h) c)/\Hid (Bt u u')):=fun u w h q1 q2 q3 q4 q5=>QO kd ab tx _ up a8 w h u q5 Ps ⟨q1,q2⟩ ⟨q3,q4⟩;have V8:Hid (∀u x y w h,u.cell? (az ab 6)=some (Iq a6)->Cw 22 #[.agg #[Iq kd,Sq ab 12 12,.string tx,.slice kp kl kc,Iq up],.agg #[Iq x,Iq y,Iq w,Iq h]] u fun e U'=>e=Rw (.bool (decide (kd=3/\a6=1/\2<=w/\2<=h)))/\Hid (Bt u U')):=fun u x y w h q=>zP kd ab tx _ up a6 x y w h u q;have HEd:=qH<|fun u=>Ou _ _ _ _ p q u hx hy hw hh;clear hn xH hC hR hN y6 y8 y10 uf Ps UG;generalize P k 0=x at*;generalize P k 1=y at*;generalize P k 2=w at*;generalize P k 3=h at*;generalize P k 4=cx at*;generalize P k 5=cy at*;generalize P k 6=ca at*;generalize P k 7=cb at*;have HW2:Hid (∀u,Bt U u->∀An W1 W2,u.heap.size=An->u.alloc (.cells #[Iq kd,Sq ab 12 12,.string tx,.slice kp kl kc,Iq up] 77)=W1->W1.alloc (.cells #[Iq x,Iq y,Iq w,Iq h] 73)=W2->Bt U W1/\Bt U W2/\W1.heap.size=An+1/\(∀v,Bt W2 v->(v.cell? (az An 0)=some (Iq kd)/\v.cell? (az An 1)=some (Sq ab 12 12)/\v.cell? (az An 2)=some (.string tx)/\v.cell? (az An 3)=some (.slice kp kl kc)/\v.cell? (az An 4)=some (Iq up))/\v.cell? (az (An+1) 0)=some (Iq x)/\v.cell? (az (An+1) 1)=some (Iq y)/\v.cell? (az (An+1) 2)=some (Iq w)/\v.cell? (az (An+1) 3)=some (Iq h))):=fun u hu An W1 W2 h1 h2 h3=>by
  have b1:Bt u W1:=by rw[<-h2];exact((Gr.refl u).alloc _).below
  have b2:Bt W1 W2:=by rw[<-h3];exact((Gr.refl W1).alloc _).below
  have hs:W1.heap.size=An+1:=by rw[<-h2,aI,h1]
  have n1:W1.heap[An]?=some (.cells #[Iq kd,Sq ab 12 12,.string tx,.slice kp kl kc,Iq up] 77 (0,0)):=by rw[<-h2,<-h1];exact heap_alloc_new _ _
  have n2:W2.heap[An+1]?=some (.cells #[Iq x,Iq y,Iq w,Iq h] 73 (0,0)):=by rw[<-h3,<-hs];exact heap_alloc_new _ _
  have hb1:=hu.trans (b1.mono hu.size);refine⟨hb1,hb1.trans (b2.mono hb1.size),hs,fun v hv=>?_⟩;have e1:=((hv.block An (by grind)).trans (b2.block An (by omega))).trans n1;have e2:=(hv.block (An+1) (aM.1 n2).1).trans n2;refine⟨⟨?_,?_,?_,?_,?_⟩,?_,?_,?_,?_⟩;all_goals first
   |(rw[Lib.cell_of_heap e1];rfl)
   |(rw[Lib.cell_of_heap e2];rfl)
 unfold _S;by_cases gA:cx<=p/\p<cx+ca/\cy<=q/\q<cy+cb;case neg=>rw[if_neg gA];rw[decide_eq_false gA]at HO;clear gA;go_enter func9,ntmps9;go_wp2_with(go_at_call 20;refine(HO _).mono ?_;rintro e u5 ⟨rfl,io⟩);go_ret;simp_all
 rw[if_pos gA];rw[decide_eq_true gA]at HO;clear gA;by_cases hb:0<b0;focus rw[if_pos hb]
 rotate_left;rw[if_neg hb];by_cases h5:kd=5;focus
  rw[if_pos h5];have e5:(kd==5)=true:=by rw[h5];rfl
  have RR:=qH fun u q5=>X_.out u w h hw.1 hw.2 hh.1 hh.2 q5;obtain⟨rn,hrn⟩:=ag (wk tx.data.toList a8 w h);rw[hrn]at RR⊢;obtain⟨r,hr⟩:=ag (decide (q-y<(rn:Int)));rw[hr];have wq:IntKind.i64.wrap (q-y)=q-y:=IntWalk.i64_in _ (by omega);clear h5 hrn X_ V8 HEd
 rotate_left;rw[if_neg h5];have e5:(kd==5)=false:=by simp;exact h5
 have BB:=qH fun u q=>V8.out u x y w h q;obtain⟨bb,qS⟩:=ag (decide (kd=3/\a6=1/\2<=w/\2<=h));rw[Bool.decide_and,qS];rw[qS]at BB;clear h5 qS X_ V8;cases bb;focus rw[RI]
 rotate_left;focus
  rw[RH];obtain⟨r,hr⟩:=ag (decide (p=x\/p=x+w-1\/q=y\/q=y+h-1));rw[hr];have ED:Hid (∀u,Cw 23 #[.agg #[Iq x,Iq y,Iq w,Iq h],Iq p,Iq q] u fun e U'=>∃z,e=Rw (Iq z)/\decide (0<z)=r/\Hid (Bt u U')):=fun u=>(HEd u).mono fun e U' k=>by obtain⟨z,k1,k2,k3⟩:=k;exact⟨z,k1,by rw[<-hr];exact decide_eq_decide.2 k2,k3⟩
  clear hr HEd
 all_goals go_enter func9,ntmps9;go_wp2_with(first|(go_at_call 20;refine(HO _).mono ?_;rintro e u5 ⟨rfl,io⟩;obtain⟨An,hAn⟩:=ag u5.heap.size;obtain⟨W1,cC⟩:=ag (u5.alloc (.cells #[Iq kd,Sq ab 12 12,.string tx,.slice kp kl kc,Iq up] 77));obtain⟨W2,pU⟩:=ag (W1.alloc (.cells #[Iq x,Iq y,Iq w,Iq h] 73));obtain⟨b1,b2,hs1,hW⟩:=HW2 u5 io An W1 W2 hAn cC pU;obtain⟨⟨c0,c1,c2,c3,c4⟩,-⟩:=HU u5 io;obtain⟨-,⟨d0,d1,d2,d3,-⟩,-⟩:=HU W1 b1;obtain⟨⟨n0,n1,n2,n3,n4⟩,r0,r1,r2,r3⟩:=hW W2 (aj _ _);obtain⟨-,-,y6,y8,y10⟩:=HU W2 b2;have HB2:=qH b2;have HWV:=qH hW;clear hW b1 b2)|(go_at_call 22;refine ao (BB _ y6) ?_;rintro e u6 ⟨rfl,kw⟩;obtain⟨⟨m0,m1,m2,m3,m4⟩,l0,l1,l2,l3⟩:=HWV u6 kw)|(go_at_call 23;refine ao (ED _) ?_;rintro e u7 ⟨z,rfl,hz,qY⟩))
 ·go_ret;exact⟨rfl,(HB2.trans (kw.mono HB2.size)).trans (qY.mono (aO HB2.size kw.size))⟩
 ·go_ret;simp_all
 ·have HD:=qH HB2.drew;have HE:Hid (Bt W2 W2.drew):=(aj _ _).drew;have RC:=qH (RR _ (HU _ HD).2.2.2.1);clear cC pU hAn hs1 c0 c1 c2 c3 c4 d0 d1 d2 d3 p4 p5 p6 p7 y6 y8 y10 RR r0 hx hy hp hq Uv hLn hk e5 hb HO io HU;go_region_held(fun W=>(W.cell? (az An 0)=some (Iq kd)/\W.cell? (az An 1)=some (Sq ab 12 12)/\W.cell? (az An 2)=some (.string tx)/\W.cell? (az An 3)=some (.slice kp kl kc)/\W.cell? (az An 4)=some (Iq up))/\W.cell? (az (An+1) 1)=some (Iq y)/\W.cell? (az (An+1) 2)=some (Iq w)/\W.cell? (az (An+1) 3)=some (Iq h)) (go_keep) (first
   |(go_at_call 21;refine ao RC ?_;rintro e u6 ⟨pp,pc,rfl,kw⟩;have HF6:=qH (HE.trans (kw.mono HE.size));obtain⟨⟨m0,m1,m2,m3,m4⟩,l0,l1,l2,l3⟩:=HWV u6 HF6));all_goals go_wp2;go_ret;exact⟨rfl,HD.trans (kw.mono HD.size)⟩
 ·go_ret;exact⟨rfl,HB2.trans (kw.mono HB2.size)⟩
end Go.Proofs.YtiaimhjebnobnaaGreatDoor
namespace Go.Proofs.YtiaimhjebnobnaaGreatDoor
open Go.RowKit Go.Sort Go.Proofs.Tryz
set_option linter.all false
/--zkx the zbN sH it out? -/
def Hm(t:ByteArray)(w h:Int):Prop:=∃L,cL t=.ok L/\1<=w/\w<=400/\1<=h/\h<=400
def lJ(t:ByteArray)(w h:Int):Bool:=match cL t with
 |.ok _=>decide (1<=w/\w<=400/\1<=h/\h<=400)
 |.error _=>false
theorem vX{t}{w h}(q:Hm t w h):lJ t w h=true:=by obtain⟨L,hp,q⟩:=q;grind[lJ]
theorem rR{t}{w h}(q:¬Hm t w h):lJ t w h=false:=by
 unfold lJ;cases hp:cL t with
 |error x=>rfl
 |ok L=>exact decide_eq_false (fun z=>q ⟨L,hp,z⟩)
set_option maxRecDepth 100000 in
set_option maxHeartbeats 4000000 in
theorem L6(t:ByteArray)(w h:Int)(U:World):Cw 4 #[.string t,Iq w,Iq h] U fun e U'=>e=Rw (.bool (lJ t w h))/\Bt U U':=by
 have RP:Hid (Cw 12 #[.string t] U fun e w'=>uy U w' e (gC t)):=wm t U;cases hp:cL t with
 |error x=>
  have hx:(jX x:Int)≠0:=by have:=uc hp;omega
  have HF:Hid (lJ t w h=false):=rR (fun⟨L,q,_⟩=>by rw[hp]at q;cases q);rw[AJ hp]at RP;obtain⟨c,hc⟩:∃z:Int,(jX x:Int)=z:=⟨_,rfl⟩;obtain⟨d,hd⟩:∃z:Int,(pR x:Int)=z:=⟨_,rfl⟩;have RP2:Hid (Cw 12 #[.string t] U fun e w'=>e=Rw (.tuple #[.slice none 0 0,Iq c,Iq d])/\Hid (Bt U w')):=RP.mono fun e w' q=>⟨by have:=q.2;grind,q.1⟩;rw[hc]at hx;clear RP hp hc hd;go_enter func4,ntmps4;go_wp2_with(go_at_call 12;refine RP2.mono ?_;rintro e U1 ⟨rfl,HB⟩);all_goals go_ret;exact⟨by rw[HF.out];rfl,HB⟩
 |ok L=>
  rw[fO hp]at RP;have HY:Hid ((1<=w/\w<=400/\1<=h/\h<=400)->lJ t w h=true):=fun q=>vX ⟨L,hp,q⟩;have HN:Hid (¬(1<=w/\w<=400/\1<=h/\h<=400)->lJ t w h=false):=fun q=>rR (fun⟨_,_,z⟩=>q z);have RP2:Hid (Cw 12 #[.string t] U fun e w'=>∃nv,e=Rw (.tuple #[nv,Iq 0,Iq 0])/\Hid (Bt U w')):=RP.mono fun e w' q=>by obtain⟨h1,nv,_,_,h2,_⟩:=q;exact⟨nv,h2,h1⟩
  clear RP hp;go_enter func4,ntmps4;go_wp2_with(go_at_call 12;refine RP2.mono ?_;rintro e U1 ⟨nv,rfl,HB⟩;by_cases h1:1<=w;by_cases h2:w<=400;by_cases h3:1<=h;by_cases h4:h<=400);all_goals
   go_ret;first
    |exact⟨by rw[HY (by omega)];rfl,HB⟩
    |exact⟨by rw[HN (by omega)];rfl,HB⟩
    |exact⟨by rw[HY (by omega)];exact congrArg (fun z=>Ending.returned (Value.bool z)) (decide_eq_true (by omega)),HB⟩
    |exact⟨by rw[HN (by omega)];simp_all,HB⟩
end Go.Proofs.YtiaimhjebnobnaaGreatDoor
namespace Go.Proofs.YtiaimhjebnobnaaGreatDoor
open Go.RowKit Go.Sort Go.Proofs.Tryz
set_option linter.all false
/--J7 the places zoq. -/
theorem dB.covs{s}{L}{Wd}{Hf}{w h}{bi off}{sn}{P}(hT:dZ s L)(hp:dB L Wd Hf w h bi off sn P L.length)(hw:1<=w/\w<=400)(hh:1<=h/\h<=400)  k  (hk:k<L.length):
 Ih (P k 4) (P k 5) (P k 6) (P k 7)/\RcB (P k 0) (P k 1) (P k 2) (P k 3) (P k 4) (P k 5) (P k 6) (P k 7)/\(0<=P k 2/\P k 2<=100000)/\(0<=P k 3/\P k 3<=100000):=by
 have ho:=hp.onScr hT hw hh (k+1) k (by omega) hk;have hb:=hp.bd k hk;unfold BX at ho;refine⟨⟨by omega,by omega,by omega,by omega⟩,fun p q hc=>?_,by omega,by omega⟩;unfold FM at hc;by_cases h0:k=0;·subst h0;obtain⟨r0,r1,r2,r3,r4,r5,r6,r7⟩:=hp.root;omega
 ·obtain⟨u,_,_,hi,_⟩:=hp.clip hT hw hh hk (by omega);grind[J4]
theorem Z'{j W x:Nat}(hW:1<=W)(h:(j:Int) %(W:Int)=(x:Int)):Op.intDiv .rem .i64 (j:Int) (W:Int)=pure (.int .i64 (x:Int)):=by unfold Op.intDiv;grind
theorem Z8{j W y:Nat}(hW:1<=W)(h:(j:Int)/(W:Int)=(y:Int))(hy:y<=100000):Op.intDiv .quo .i64 (j:Int) (W:Int)=pure (.int .i64 (y:Int)):=by
 unfold Op.intDiv;rw[if_neg (by omega)];show pure (Value.int .i64 (IntKind.i64.wrap (Int.tdiv _ _)))=_;have e:IntKind.i64.wrap (y:Int)=(y:Int):=by rw[RN];omega
 grind
set_option maxRecDepth 100000 in
set_option maxHeartbeats 8000000 in
theorem He(t:ByteArray)(w h:Int)(sp:Option Addr)(sn sc:Nat)(bi off:Nat->Int)(E:Nat->Addr)(W0:World)(hG:BQ W0 E)(hA:jt W0 E)(hE:BP W0)(ht:cG W0)(hsc:mg W0 sp sn bi off)(xj:sn<=8796093022208):
 Cw 3 #[.string t,Iq w,Iq h,.slice sp sn sc] W0 fun e W'=>e=Rw (.bool true)/\Bt W0 W':=by
 have kD:prog.follows .mixedOrders=true:=by kernel_rfl
 have RT:Hid (Cw 4 #[.string t,Iq w,Iq h] W0 fun e U'=>e=Rw (.bool (lJ t w h))/\Hid (Bt W0 U')):=L6 t w h W0;have NU:=qH<|lnum_any;have SC:Hid (∀u,Bt W0 u->Cw 6 #[.slice sp sn sc] u fun e u'=>∃p c,e=Rw (.slice p sn c)/\Hid (mg u' p sn bi off/\(∀a:Addr,p=some a->a.block<u'.heap.size)/\Bt u u')):=fun u hu=>(Ex sp sn sc bi off u (hsc.below hu) xj).mono (by rintro e u' ⟨p,c,h1,h2,h3,h4⟩;exact⟨p,c,h1,h2,fun a e=>(h3 a e).2,h4⟩);have FR:=qH<|fun u p c hu h1 h2=>Hb t w h p sn c bi off E u (hG.cells hu) (hA.below hu) (hE.below hu) (ht.below hu) h1 (by omega) h2;have My:Hid (∀u,Bt W0 u->mg u sp sn bi off):=fun u hu=>hsc.below hu;clear hG hA hE ht hsc;by_cases hr:Hm t w h
 ·rw[vX hr]at RT;obtain⟨L,hp,hb⟩:=hr;have hT:=jL (fO hp);have LY:Hid (∀Wd Hf,Sz L Wd Hf->∀u,Bt W0 u->Cw 8 #[.string t,Iq w,Iq h,.slice sp sn sc] u fun e U'=>∃g cap pb P,e=Rw (.tuple #[Sq g L.length cap,Sq pb L.length L.length,Iq 0,Iq 0])/\Hid (ju U' g L.length (ae L))/\Hid (U'.rowIs pb 75 (L.length*10) (lr P))/\Hid (dB L Wd Hf w h bi off sn P L.length)/\Hid (Bt u U')):=fun Wd Hf hz u hu=>Vu t w h sp sn sc bi off u (My u hu) (by omega) hp hz (by omega);obtain⟨W,rfl⟩:∃W:Nat,w=(W:Int):=⟨w.toNat,by omega⟩;obtain⟨H,rfl⟩:∃H:Nat,h=(H:Int):=⟨h.toNat,by omega⟩;have hW:1<=W/\W<=400:=by omega
  have hH:1<=H/\H<=400:=by omega
  have FR2:Hid (∀u p c,Bt W0 u->mg u p sn bi off->(∀a:Addr,p=some a->a.block<u.heap.size)->Cw 5 #[.string t,Iq W,Iq H,.slice p sn c] u fun e u'=>∃N cap Wd Hf P,e=Rw (.tuple #[Sq N (W*H) cap,Iq 0,Iq 0])/\Hid (Sz L Wd Hf)/\Hid (dB L Wd Hf W H bi off sn P L.length)/\Hid (Cv 42 u' N W H (frK W H L P L.length))/\Hid (Bt u u')):=fun u p c a1 a2 a3=>(FR u p c a1 a2 a3).mono fun e u' q=>by
   rw[hp]at q;obtain⟨jF,q⟩:=q;rcases q with⟨q,_⟩|⟨W',H',e1,e2,_,_,N,cap,P,Wd,Hf,q1,q2,q3,q4,_⟩;·exact absurd hb q
   ·obtain rfl:W=W':=by omega
    obtain rfl:H=H':=by omega
    exact⟨N,cap,Wd,Hf,P,q3,q1,q2,q4,jF⟩
  obtain⟨n,hn⟩:=ag (W*H);have hnb:1<=n/\n<=160000:=by rw[<-hn];exact⟨tc hW.1 hH.1,tc hW.2 hH.2⟩
  have hnI:(W:Int)*(H:Int)=(n:Int):=by rw[<-hn];exact(Int.natCast_mul W H).symm
  have HN:=qH hn;have Fm:=qH hT;rw[hn]at FR2;obtain⟨m,hm⟩:=ag L.length;have Ux:m<=100:=by rw[<-hm];exact hT.vl.cnt
  have HM:=qH hm;rw[hm]at LY;clear FR hp hb hn hT hm My;go_enter func3,ntmps3;go_wp2_with(first|(go_at_call 4;refine RT.mono ?_;rintro e u1 ⟨rfl,HB1⟩)|(go_at_call 6;refine ao (SC _ HB1) ?_;rintro e u2 ⟨p2,c2,rfl,tV⟩)|(go_at_call 5;refine ao (FR2 _ _ _ (HB1.trans (tV.2.2.mono HB1.size)) tV.1 tV.2.1) ?_;rintro e u3 ⟨N,cap,Wd,Hf,P,rfl,HZ,Th,HCV,HB3⟩)|(go_at_call 7;(with_reducible refine ao (NU.out _ _) ?_);rintro e u5 ⟨rfl,h5⟩;obtain rfl:=h5.symm)|(go_at_call 8;refine ao (LY _ _ HZ _ ((HB1.trans (tV.2.2.mono HB1.size)).trans (HB3.mono (aO HB1.size tV.2.2.size)))) ?_;rintro e u4 ⟨g,gc,pb,P2,rfl,HNR,oN,zaW,HB4⟩));have HB:=qH<|((HB1.trans (tV.2.2.mono HB1.size)).trans (HB3.mono (aO HB1.size tV.2.2.size))).trans (HB4.mono (aO (aO HB1.size tV.2.2.size) HB3.size));have HV:=qH<|HCV.keep (HB4.block N HCV.lt);have Ti:Hid (dB L Wd Hf W H bi off sn P2 L.length):=by show dB _ _ _ _ _ _ _ _ _ _;rw[HM.out];exact zaW.out
  have Bm:Hid (∀k,k<m->Ih (P2 k 4) (P2 k 5) (P2 k 6) (P2 k 7)/\RcB (P2 k 0) (P2 k 1) (P2 k 2) (P2 k 3) (P2 k 4) (P2 k 5) (P2 k 6) (P2 k 7)/\(0<=P2 k 2/\P2 k 2<=100000)/\(0<=P2 k 3/\P2 k 3<=100000)):=fun k hk=>dB.covs (w:=(W:Int)) (h:=(H:Int)) Fm.out Ti.out (by omega) (by omega) k (by rw[HM.out];exact hk);have CV:Hid (∀(y x k:Nat),y<H->x<W->k<m->∀u,Bt u4 u->Cw 9 #[Sq g m gc,Sq pb m m,Iq (k:Int),Iq (x:Int),Iq (y:Int)] u fun e u'=>e=Rw (.bool (ma L P2 x y k))/\Hid (Bt u u')):=fun y x k hy hx hk u hu=>by
   obtain⟨a1,_,a3,a4⟩:=Bm k hk;have dj:k<L.length:=by rw[HM.out];exact hk
   have hbd:=Ti.out.bd k dj;have uf:=Fm.out.vl.tl k dj;have f_:=Fm.out.sz;have:=FX (L:=L) g gc pb k dj P2 x y u (by rw[HM.out];exact HNR.out.below hu) (by rw[HM.out];exact rowIs_below oN.out hu) (by omega) (by rw[HM.out];exact Ux) a1 a3 a4 (by omega) (by omega) (by omega) (by omega);rw[HM.out]at this;omega
  have ST:Hid (∀k:Nat,k<m->∀u,Bt u4 u->Cw 11 #[Sq g m gc,Iq (k:Int)] u fun e u'=>e=Rw (.agg #[Iq (gw L k).1,Iq (gw L k).2.1,Iq (gw L k).2.2])/\Hid (Bt u u')):=fun k hk u hu=>by
   have dj:k<L.length:=by rw[HM.out];exact hk
   have:=sV (L:=L) (fun i hi=>Fm.out.nest.upl i hi) (by rw[HM.out];exact Ux) g gc (k+1) k (by omega) dj u (by rw[HM.out];exact HNR.out.below hu);rw[HM.out]at this;exact this
  have LK:Hid (∀f g b u,Cw 10 #[.agg #[Iq f,Iq g,Iq b]] u fun e u'=>e=Rw (.agg #[Iq f,Iq g,Iq b])/\Hid (Bt u u')):=fun f g b u=>(P_ f g b u).mono fun e u' q=>⟨q.1,q.2.below⟩;have ur:Hid (∀y x:Nat,y<H->x<W->(ft (ma L P2 x y) m<0->frK W H L P L.length y x=bk 0 0 0)/\(0<=ft (ma L P2 x y) m->(frK W H L P L.length y x).f=(gw L (ft (ma L P2 x y) m).toNat).1/\(frK W H L P L.length y x).g=(gw L (ft (ma L P2 x y) m).toNat).2.1/\(frK W H L P L.length y x).b=(gw L (ft (ma L P2 x y) m).toNat).2.2)):=fun y x hy hx=>by
   have e1:∀k,k<=L.length->ft (ma L P2 x y) k=ft (ma L P x y) k:=fun k=>by
    induction k with
    |zero=>intro _;rfl
    |succ k ih=>intro hk;have hu:=fun t ht=>dB.uniq Fm.out Ti.out Th.out (k+1) k (by omega) (by omega) t ht;grind[ma,ft]
   have:=CY hW hH (P:=P) (fun k hk=>dB.covs (w:=(W:Int)) (h:=(H:Int)) Fm.out Th.out (by omega) (by omega) k hk) hy hx L.length (ai _);rw[<-HM.out,e1 _ (ai _)];omega
  clear RT SC FR2 NU LY HNR oN Th zaW Ti HCV Bm HZ;generalize frK W H L P L.length=cc at HV ur;go_loopw[17] (fun iv wr=>∃i:Nat,i<=n/\iv=Iq (i:Int)/\Hid (Bt u4 wr)) (fun iv _=>n-(intOf iv).toNat);case atStart=>exact⟨0,aZ _,rfl,aj _ _⟩
  case round=>
   obtain⟨i,hi,rfl,HBr⟩:=hrel;by_cases hlt:i<n
   ·have aN:(i:Int)<(n:Int):=by omega
    obtain⟨y,hy⟩:∃y,i/W=y:=⟨_,rfl⟩;obtain⟨x,hx⟩:∃x,i %W=x:=⟨_,rfl⟩;have MW:y<H:=by rw[<-hy];exact Nat.div_lt_of_lt_mul (by omega)
    have MT:x<W:=by rw[<-hx];exact Nat.mod_lt _ (by omega)
    have eo:y*W*5+x*5=i*5:=by have h1:=Nat.div_add_mod i W;rw[hy,hx,s_ W]at h1;omega
    have er:(i:Int) %(W:Int)=(x:Int):=by rw[<-hx];omega
    have eq:(i:Int)/(W:Int)=(y:Int):=by rw[<-hy];omega
    have w0:¬W=0:=by omega
    have er':(i:Int).tmod (W:Int)=(x:Int):=by rw[R6 (by omega)];exact er
    have eq':(i:Int).tdiv (W:Int)=(y:Int):=by rw[xc (by omega)];exact eq
    have wy:IntKind.i64.wrap (y:Int)=(y:Int):=by rw[RN];omega
    have hr:=Z' hW.1 er;have hq:=Z8 hW.1 eq (by omega);have CVy:=qH (fun k hk=>CV y x k MW MT hk);have HFy:=qH (ur y x MW MT);obtain⟨Fq,zcr⟩:=ag (ma L P2 x y);rw[zcr]at CVy HFy;clear zcr er eq hy hx;go_wp2;go_loopw[18,19] (fun lv kv wv=>∃k:Nat,k<=m/\kv=Iq (k:Int)/\lv=Iq (ft Fq k)/\Hid (Bt u4 wv)) (fun _ kv _=>m-(intOf kv).toNat);case atStart=>exact⟨0,aZ _,rfl,rfl,HBr⟩
    case round=>
     obtain⟨k,hk,rfl,rfl,HBk⟩:=hrel;by_cases mM:k<m
     ·have W8:(k:Int)<(m:Int):=by omega
      have CK:=qH (CVy k mM);obtain⟨b,hb⟩:=ag (Fq k);have Ng:Hid (ft Fq (k+1)=if b=true then(k:Int)else ft Fq k):=by rw[<-hb];exact(rfl:(if Fq k=true then(k:Int)else ft Fq k)=_)
      rw[hb]at CK;have HD:=qH HBk.drew;clear hb;obtain⟨lc,O_⟩:=ag (ft Fq k);rw[O_]at Ng⊢;cases b;all_goals
       go_wp2_with fail;go_region_held(fun _=>True) (trivial) (first|(go_at_call 9;refine ao (CK _ HD) ?_;rintro e u7 ⟨rfl,qY⟩));all_goals
        go_wp2;go_roundw;case rel=>exact⟨k+1,by omega,by go_num,by rw[Ng.out];rfl,HD.trans (qY.mono HD.size)⟩
        case measure=>simp[intOf];omega
     ·have W8:¬(k:Int)<(m:Int):=by omega
      obtain rfl:k=m:=by omega
      have hlb:=DH Fq k;obtain⟨lc,O_⟩:=ag (ft Fq k);rw[O_]at HFy hlb⊢;obtain⟨A,hA⟩:=ag wr.heap.size;obtain⟨W5,YP⟩:=ag (wr.alloc (.cells #[Iq 0,Iq 0,Iq 0] 37));have hG5:Gr wr W5:=by rw[<-YP];exact(Gr.refl _).alloc _
      have io:=qH<|HBk.trans (hG5.below.mono HBk.size);have MG:R3 37 W5 A 0 0 0:=by rw[<-YP,<-hA];exact R3.new _ _ _ _ _
      have z0:=MG.c0;have z1:=MG.c1;have z2:=MG.c2;have zf:=MG.fz;obtain⟨W7,hW7⟩:=ag (((W5.setCell (az A 0) (Iq 0)).setCell (az A 1) (Iq 0)).setCell (az A 2) (Iq 0));have _Z:R3 37 W7 A 0 0 0:=by rw[<-hW7];exact MG.set 0 0 0
      have hq:u4.heap.size<=A:=by rw[<-hA];exact HBk.size
      have qY:Hid (Bt u4 W7):=by rw[<-hW7];exact((io.setCell (by exact hq) _).setCell (by exact hq) _).setCell (by exact hq) _
      have Np:=qH _Z;have hNA:N<A:=by rw[<-hA];exact zz008 HV.lt HBk.size
      have Yc:=qH<|HV.keep (qY.block N HV.lt);clear O_ hG5 MG;by_cases hl:lc<0
      ·have s0:=_Z.c0;have s1:=_Z.c1;have s2:=_Z.c2;have c0:=Yc.c0 MW MT;have c1:=Yc.c1 MW MT;have c2:=Yc.c2 MW MT;have c3:=Yc.c3 MW MT;have c4:=Yc.c4 MW MT;rw[HFy.out.1 hl]at c0 c1 c2 c3 c4;rw[eo]at c0 c1 c2 c3 c4;unfold bk spc at c0 c1 c2 c3 c4;dsimp only at c0 c1 c2 c3 c4;clear _Z;go_wp2_with fail;go_quiet(fail);go_wp2;go_roundw;case rel=>exact⟨i+1,hlt,by go_num,qY.trans ⟨rfl,rfl,rfl,ai _,fun _ _=>rfl⟩⟩
       case measure=>simp[intOf];omega
      ·have SJ:0<=lc:=by omega
       have hd:=decide_eq_false hl;obtain⟨e1,e2,e3⟩:=HFy.out.2 SJ;have hj:(lc.toNat:Int)=lc:=by omega
       have Ym:=qH (ST lc.toNat (by omega));rw[hj]at Ym;generalize lc.toNat=j at Ym e1 e2 e3;have HE:Hid ((cc y x).f=(gw L j).1/\(cc y x).g=(gw L j).2.1/\(cc y x).b=(gw L j).2.2):=⟨e1,e2,e3⟩;generalize(gw L j).1=f0 at Ym HE;generalize(gw L j).2.1=f1 at Ym HE;generalize(gw L j).2.2=f2 at Ym HE;have HX:Hid (∀u,Bt W7 u->∀W6,((u.setCell (az A 0) (Iq f0)).setCell (az A 1) (Iq f1)).setCell (az A 2) (Iq f2)=W6->(R3 37 u A 0 0 0/\R3 37 W6 A f0 f1 f2)/\(W6.cell? (az N (i*5+1))=some (Iq f0)/\W6.cell? (az N (i*5+2))=some (Iq f1)/\W6.cell? (az N (i*5+3))=some (Iq f2))/\(W6.cell? (az N (i*5))=some (.string (cc y x).t)/\W6.cell? (az N (i*5+4))=some (Iq (cc y x).p))/\Bt u4 W6):=fun u hu W6 h6=>by
        have hr:R3 37 u A 0 0 0:=(hu.block A Np.out.lt).trans Np.out;have hn:W6.heap[N]?=W7.heap[N]?:=by rw[<-h6,cF _ _ _ _ (by show N≠A;omega),cF _ _ _ _ (by show N≠A;omega),cF _ _ _ _ (by show N≠A;omega)];exact hu.block N Yc.out.lt
        have hv:=Yc.out.keep hn;have c1:=hv.c1 MW MT;have c2:=hv.c2 MW MT;have c3:=hv.c3 MW MT;have c0:=hv.c0 MW MT;have c4:=hv.c4 MW MT;rw[eo]at c0 c1 c2 c3 c4;rw[HE.out.1]at c1;rw[HE.out.2.1]at c2;rw[HE.out.2.2]at c3;have hb:=qY.trans (hu.mono qY.size);refine⟨⟨hr,by rw[<-h6];exact hr.set f0 f1 f2⟩,⟨c1,c2,c3⟩,⟨c0,c4⟩,?_⟩;rw[<-h6];exact((hb.setCell (by exact hq) _).setCell (by exact hq) _).setCell (by exact hq) _
       clear e1 e2 e3 _Z HE;go_wp2_with(first|(go_at_call 11;refine ao (Ym _ qY) ?_;rintro e u8 ⟨rfl,V6⟩)|(go_at_call 10;refine ao (LK _ _ _ _) ?_;rintro e u9 ⟨rfl,HB9⟩;obtain⟨W6,YQ⟩:=ag (((u9.setCell (az A 0) (Iq f0)).setCell (az A 1) (Iq f1)).setCell (az A 2) (Iq f2));obtain⟨⟨hr,hr6⟩,⟨c1,c2,c3⟩,⟨c0,c4⟩,ri⟩:=HX u9 (V6.trans (HB9.mono V6.size)) W6 YQ;have kw:=qH ri;have q0:=hr.c0;have q1:=hr.c1;have q2:=hr.c2;have qf:=hr.fz;have s0:=hr6.c0;have s1:=hr6.c1;have s2:=hr6.c2;clear hr hr6 ri));clear YQ hW7 YP hA z0 z1 z2 zf q0 q1 q2 qf hlb hj W8 hk HX Ym LK ST CV ur HFy CVy;generalize(cc y x).t=tx at c0;generalize(cc y x).p=px at c4;go_quiet(fail);go_wp2;go_roundw;case rel=>exact⟨i+1,hlt,by go_num,kw.trans ⟨rfl,rfl,rfl,ai _,fun _ _=>rfl⟩⟩
       case measure=>simp[intOf];omega
   ·have aN:¬(i:Int)<(n:Int):=by omega
    go_wp2;go_ret;exact⟨rfl,HB.trans (HBr.mono HB.size)⟩
 ·rw[rR hr]at RT;have FR3:Hid (∀u p c,Bt W0 u->mg u p sn bi off->(∀a:Addr,p=some a->a.block<u.heap.size)->Cw 5 #[.string t,Iq w,Iq h,.slice p sn c] u fun e u'=>∃k d,e=Rw (.tuple #[.slice none 0 0,Iq k,Iq d])/\(k==0)=false/\Hid (Bt u u')):=fun u p c a1 a2 a3=>(FR u p c a1 a2 a3).mono fun e u' q=>by
   cases hp:cL t with
   |error x=>
    rw[hp]at q;have hx:(jX x:Int)≠0:=by have:=uc hp;omega
    exact⟨_,_,q.2,by grind,q.1⟩
   |ok L=>
    rw[hp]at q;obtain⟨jF,q⟩:=q;rcases q with⟨_,q⟩|⟨W',H',e1,e2,h1,h2,_⟩;·exact⟨_,_,q,rfl,jF⟩
    ·exact absurd ⟨L,hp,by omega⟩ hr
  clear FR;go_enter func3,ntmps3;go_wp2_with(first|(go_at_call 4;refine RT.mono ?_;rintro e u1 ⟨rfl,HB1⟩)|(go_at_call 6;refine ao (SC _ HB1) ?_;rintro e u2 ⟨p2,c2,rfl,tV⟩)|(go_at_call 5;refine ao (FR3 _ _ _ (HB1.trans (tV.2.2.mono HB1.size)) tV.1 tV.2.1) ?_;rintro e u3 ⟨k,d,rfl,hk,HB3⟩)|(go_at_call 7;(with_reducible refine ao (NU.out _ _) ?_);rintro e u5 ⟨rfl,h5⟩;obtain rfl:=h5.symm));go_ret;refine⟨?_,(HB1.trans (tV.2.2.mono HB1.size)).trans (HB3.mono (aO HB1.size tV.2.2.size))⟩;simpa using hk
