import Derived.Test.YtadhgppeafpdgaaGreatDoorQ43
import Derived.Test.YtadhgppeafpdgaaGreatDoorQ21
set_option linter.all false
set_option maxRecDepth 100000
set_option maxHeartbeats 16000000
namespace Go.Proofs.YtadhgppeafpdgaaGreatDoor
open Go.RowKit Go.Sort Go.Proofs.Tryz
def zfp(U U':World)(w h:Int)(aX off:Nat->Int)(sn:Nat)(Wd:Nat->Int)(H:Nat->Int->Int)(r:Except (Option (Nat×Nat)) (List Nd))(e:Ending):Prop:=Bt U U'/\match r with
 |.error x=>e=Rw (.tuple #[.slice none 0 0,Iq (jR x:Int),Iq (se x:Int)])
 |.ok L=>(¬(1<=w/\w<=400/\1<=h/\h<=400)/\e=Rw (.tuple #[.slice none 0 0,Iq 6,Iq 0]))\/((1<=w/\w<=400/\1<=h/\h<=400)/\∃pb P,e=Rw (.tuple #[Sq pb L.length L.length,Iq 0,Iq 0])/\U'.rowIs pb 102 (L.length*10) (zM P)/\cQ L Wd H w h aX off sn P L.length/\U.heap.size<=pb)
theorem layout_at(t:ByteArray)(w h:Int)(sp:Option Addr)(sn sc:Nat)(aX off:Nat->Int)(E:Nat->Addr)(U:World)(hG:xe U E)(hA:gj U E)(hE:xd U)(ht:aL U)(Hy:sN U sp sn aX off)(_y:sn<=4611686018427387904)(Ep:∀a:Addr,sp=some a->a.block<U.heap.size)(Wd:Nat->Int)(H:Nat->Int->Int)(hSz:∀L,bJ t=.ok L->Sz L Wd H):
 Cw 40 #[.string t,Iq w,Iq h,.slice sp sn sc] U fun e U'=>zfp U U' w h aX off sn Wd H (bJ t) e:=by
 have HSz:Hid (∀L,bJ t=.ok L->Sz L Wd H):=hSz;clear hSz;have TP:Hid (Cw 19 #[.string t] U fun e w'=>VW U w' e (bJ t)):=tparse_any t E U hG hA hE;have SD:Hid (∀n u,Cw 62 #[Iq n] u fun e w'=>e=Rw (.bool (decide (1<=n/\n<=400)))/\w'=u):=Fm;have HT:Hid (aL U/\sN U sp sn aX off):=⟨ht,Hy⟩;clear hG hA hE ht Hy;go_enter func40,ntmps40;go_wp2_with fail;refine TP.mono ?_;rintro e U1 ⟨hb1,hr⟩;have HB1:Hid (Bt U U1):=hb1;clear hb1 TP;cases hp:bJ t with
 |error x=>
  rw[hp]at hr;subst hr;have hx:(jR x:Int)≠0:=by have:=zg hp;omega
  have ky:((jR x:Int)!=0)=true:=by simpa using hx
  have Rx:Hid (bJ t=.error x):=hp;obtain⟨c,hc⟩:∃z:Int,(jR x:Int)=z:=⟨_,rfl⟩;have HCE:Hid ((jR x:Int)=c):=hc;rw[hc]at hx ky⊢;clear hp hc;go_wp2;refine bodyPost_ret (results_tmp3 rfl _ _ _) rfl ?_;rw[Rx.out];exact⟨HB1,by show _=_;rw[HCE.out];rfl⟩
 |ok L=>
  rw[hp]at hr;obtain⟨nv,KV,rfl,hn⟩:=hr;have hT:gA t L:=eE (dB hp);have hS:=HSz L hp;have fW:=hT.pos;obtain⟨g,cap,rfl⟩:∃g cap,nv=Sq g L.length cap:=by obtain⟨xs,hx⟩:=hn.nr.row;grind[de]
  have HN:Hid (PN U1 U.heap.size (Sq g L.length cap) L KV):=hn;have Rx:Hid (bJ t=.ok L):=hp;clear hn hp;by_cases hw:1<=w/\w<=400
  ·by_cases hh:1<=h/\h<=400
   ·have S1:Hid (∀u,Cw 62 #[Iq w] u fun e w'=>e=Rw (.bool true)/\w'=u):=fun u=>by have:=SD w u;grind
    have S2:Hid (∀u,Cw 62 #[Iq h] u fun e w'=>e=Rw (.bool true)/\w'=u):=fun u=>by have:=SD h u;grind
    have NM:Hid (Cw 63 #[Sq g L.length cap] U1 fun e u'=>∃mb r wb,e=Rw (Pq mb)/\Hid (Bt U1 u'/\Hs u' mb r g cap wb L KV Wd H 0/\U1.heap.size<=r)):=by refine(uP g cap hT hS U1 _ HN (HT.1.below HB1)).mono ?_;rintro e u' ⟨mb,r,wb,h1,h2,h3,h4⟩;exact⟨mb,r,wb,h1,h2,h3,h4⟩
    have PL:Hid (∀u mb r wb,Bt U1 u->Hs u mb r g cap wb L KV Wd H 0->Cw 64 #[Pq mb,Iq w,Iq h,.slice sp sn sc] u fun e u'=>∃pb,e=Rw (Sq pb L.length L.length)/\Hid (∃P,u'.rowIs pb 102 (L.length*10) (zM P)/\cQ L Wd H w h aX off sn P L.length/\u.grownBy u' (some r)/\u.heap.size<=pb)):=fun u mb r wb hu hHs=>by have jj:=HB1.trans (hu.mono HB1.size);refine(FW mb r g cap wb hT hS w h sp sn sc aX off u hHs hw hh (HT.2.below jj) _y (fun a e=>zz007 (Ep a e) jj.size)).mono ?_;rintro e u' ⟨pb,P,h1,h2,h3,h4,h5⟩;exact⟨pb,h1,P,h2,h3,h4,h5⟩
    clear SD HT;go_wp2_with(first|(go_at_call 62;(with_reducible refine ai (S1.out _) ?_);rintro e u5 ⟨rfl,h5⟩;obtain rfl:=h5.symm)|(go_at_call 62;(with_reducible refine ai (S2.out _) ?_);rintro e u5 ⟨rfl,h5⟩;obtain rfl:=h5.symm)|(go_at_call 63;refine ai NM.out ?_;rintro e u6 ⟨mb,r,wb,rfl,HH⟩)|(go_at_call 64;refine ai (PL.out _ _ _ _ HH.out.1 HH.out.2.1) ?_;rintro e u7 ⟨pb,rfl,HZ⟩));all_goals refine bodyPost_ret (results_tmp3 rfl _ _ _) rfl ?_;rw[Rx.out];obtain⟨P,z1,z2,z3,z4⟩:=HZ.out;obtain⟨q1,q2,q3⟩:=HH.out;have hb1:=HB1.out;have RN:=hb1.trans (q1.mono hb1.size);have qj:=hb1.size;have zgW:=RN.size;refine⟨RN.grown z3 zgW (fun k hk=>by grind),?_⟩;exact .inr ⟨⟨hw.1,hw.2,hh.1,hh.2⟩,pb,P,rfl,z1,z2,by omega⟩
   ·have S1:Hid (∀u,Cw 62 #[Iq w] u fun e w'=>e=Rw (.bool true)/\w'=u):=fun u=>by have:=SD w u;grind
    have S2:Hid (∀u,Cw 62 #[Iq h] u fun e w'=>e=Rw (.bool false)/\w'=u):=fun u=>by have:=SD h u;grind
    clear SD HT HN;go_wp2_with(first|(go_at_call 62;(with_reducible refine ai (S1.out _) ?_);rintro e u5 ⟨rfl,h5⟩;obtain rfl:=h5.symm)|(go_at_call 62;(with_reducible refine ai (S2.out _) ?_);rintro e u5 ⟨rfl,h5⟩;obtain rfl:=h5.symm));all_goals refine bodyPost_ret (results_tmp3 rfl _ _ _) rfl ?_;rw[Rx.out];exact⟨HB1,.inl ⟨fun q=>hh ⟨q.2.2.1,q.2.2.2⟩,rfl⟩⟩
  ·have S1:Hid (∀u,Cw 62 #[Iq w] u fun e w'=>e=Rw (.bool false)/\w'=u):=fun u=>by have:=SD w u;grind
   clear SD HT HN;go_wp2_with(go_at_call 62;refine ai (S1 _) ?_;rintro e u5 ⟨rfl,h5⟩;obtain rfl:=h5.symm);all_goals refine bodyPost_ret (results_tmp3 rfl _ _ _) rfl ?_;rw[Rx.out];exact⟨HB1,.inl ⟨fun q=>hw ⟨q.1,q.2.1⟩,rfl⟩⟩
def frK(W H:Nat)(L:List Nd)(P:Nat->Nat->Int):Nat->Nat->Nat->Ce
 |0=>fun _ _=>bk 0 0 0
 |k+1=>Ir W H (sty L k).1 (sty L k).2.1 (sty L k).2.2 (P k 4) (P k 5) (P k 6) (P k 7) (ac L k).kind (aC (ac L k) 6) (aC (ac L k) 7) (aC (ac L k) 8) (aC (ac L k) 10) (ac L k).text (P k 0) (P k 1) (P k 2) (P k 3) (frK W H L P k)
theorem oG{W H}{Q:(Nat->Nat->Ce)->Prop}{L}{P}(h0:Q (fun _ _=>bk 0 0 0))(hf:∀c x y w hh f g bd cx cy ca cb,Q c->Q (kq W H c x y w hh f g bd cx cy ca cb))(hs:∀f g bd cx cy ca cb x y s c,Q c->Q (wrL W H f g bd cx cy ca cb x y s c)):∀k,Q (frK W H L P k)
 |0=>h0
 |k+1=>Qa (fun c hc=>hf c _ _ _ _ _ _ _ _ _ _ _ hc) (fun x y s c hc=>hs _ _ _ _ _ _ _ x y s c hc) (oG h0 hf hs k)
theorem PAll.blank  W H  :PAll W H (fun _ _=>bk 0 0 0):=fun y hy=>⟨fun i hi=>.inl rfl,fun i hi h=>(by cases h),fun i hi h=>(by cases h)⟩
theorem PAll.frK{W H:Nat}(hW:1<=W/\W<=400)(hH:1<=H/\H<=400)(L:List Nd)(P:Nat->Nat->Int)(k:Nat):PAll W H (frK W H L P k):=
 oG (Q:=PAll W H) (PAll.blank W H) (fun c _ _ _ _ _ _ _ _ _ _ _ hc=>hc.filX hW hH _ _ _ _ _ _ _ _ _ _ _) (fun _ _ _ _ _ _ _ _ _ _ c hc=>hc.wrL hW hH _ _ _ _ _ _ _ _ _ _) k
def zej(U U':World)(w h:Int)(aX off:Nat->Int)(sn:Nat)(Wd:Nat->Int)(Hf:Nat->Int->Int)(r:Except (Option (Nat×Nat)) (List Nd))(e:Ending):Prop:=Bt U U'/\match r with
 |.error x=>e=Rw (.tuple #[.slice none 0 0,Iq (jR x:Int),Iq (se x:Int)])
 |.ok L=>(¬(1<=w/\w<=400/\1<=h/\h<=400)/\e=Rw (.tuple #[.slice none 0 0,Iq 6,Iq 0]))\/∃W H:Nat,w=W/\h=H/\(1<=W/\W<=400)/\(1<=H/\H<=400)/\∃N cap P,cQ L Wd Hf w h aX off sn P L.length/\e=Rw (.tuple #[Sq N (W*H) cap,Iq 0,Iq 0])/\Cv 47 U' N W H (frK W H L P L.length)/\U.heap.size<=N/\W*H<=cap/\cap<=9223372036854775807
def R8(u:World)(B K:Nat)(f0 f1 f2 c0 c1 c2 c3:Int):Prop:=u.heap[B]?=some (.cells #[Pq K,Iq f0,Iq f1,Iq f2,Iq c0,Iq c1,Iq c2,Iq c3] 117 (0,0))
theorem bK.drewn{M}{W W'}(h:bK M W W'):bK M W W'.drew:=⟨h.os,h.tape,h.output,h.size,h.block⟩
section
variable{u:World} {B K:Nat} {f0 f1 f2 c0 c1 c2 c3:Int}
theorem R8.s1(h:R8 u B K f0 f1 f2 c0 c1 c2 c3)  v  :R8 (u.setCell (aq B 1) (.int .i64 v)) B K v f1 f2 c0 c1 c2 c3:=heap_setCell_same _ B 1 _ _ _ h
theorem R8.s2(h:R8 u B K f0 f1 f2 c0 c1 c2 c3)  v  :R8 (u.setCell (aq B 2) (.int .i64 v)) B K f0 v f2 c0 c1 c2 c3:=heap_setCell_same _ B 2 _ _ _ h
theorem R8.s3(h:R8 u B K f0 f1 f2 c0 c1 c2 c3)  v  :R8 (u.setCell (aq B 3) (.int .i64 v)) B K f0 f1 v c0 c1 c2 c3:=heap_setCell_same _ B 3 _ _ _ h
theorem R8.s4(h:R8 u B K f0 f1 f2 c0 c1 c2 c3)  v  :R8 (u.setCell (aq B 4) (.int .i64 v)) B K f0 f1 f2 v c1 c2 c3:=heap_setCell_same _ B 4 _ _ _ h
theorem R8.s5(h:R8 u B K f0 f1 f2 c0 c1 c2 c3)  v  :R8 (u.setCell (aq B 5) (.int .i64 v)) B K f0 f1 f2 c0 v c2 c3:=heap_setCell_same _ B 5 _ _ _ h
theorem R8.s6(h:R8 u B K f0 f1 f2 c0 c1 c2 c3)  v  :R8 (u.setCell (aq B 6) (.int .i64 v)) B K f0 f1 f2 c0 c1 v c3:=heap_setCell_same _ B 6 _ _ _ h
theorem R8.s7(h:R8 u B K f0 f1 f2 c0 c1 c2 c3)  v  :R8 (u.setCell (aq B 7) (.int .i64 v)) B K f0 f1 f2 c0 c1 c2 v:=heap_setCell_same _ B 7 _ _ _ h
theorem R8.dr(h:R8 u B K f0 f1 f2 c0 c1 c2 c3):R8 u.drew B K f0 f1 f2 c0 c1 c2 c3:=h
theorem R8.seven(h:R8 u B K f0 f1 f2 c0 c1 c2 c3)  s0 s1 s2 s3 s4 s5 s6  :R8 (((((((u.setCell (aq B 1) (.int .i64 s0)).setCell (aq B 2) (.int .i64 s1)).setCell (aq B 3) (.int .i64 s2)).setCell (aq B 4) (.int .i64 s3)).setCell (aq B 5) (.int .i64 s4)).setCell (aq B 6) (.int .i64 s5)).setCell (aq B 7) (.int .i64 s6)).drew B K s0 s1 s2 s3 s4 s5 s6:=
 (((((((h.s1 s0).s2 s1).s3 s2).s4 s3).s5 s4).s6 s5).s7 s6).dr
end
theorem La(t:ByteArray)(w h:Int)(sp:Option Addr)(sn sc:Nat)(aX off:Nat->Int)(E:Nat->Addr)(U:World)(hG:xe U E)(hA:gj U E)(hE:xd U)(ht:aL U)(Hy:sN U sp sn aX off)(_y:sn<=4611686018427387904)(Ep:∀a:Addr,sp=some a->a.block<U.heap.size)(Wd:Nat->Int)(Hf:Nat->Int->Int)(hSz:∀L,bJ t=.ok L->Sz L Wd Hf):
 Cw 25 #[.string t,Iq w,Iq h,.slice sp sn sc] U fun e U'=>zej U U' w h aX off sn Wd Hf (bJ t) e:=by
 have LY:=qH<|layout_at t w h sp sn sc aX off E U hG hA hE ht Hy _y Ep Wd Hf hSz;clear hSz;cases hp:bJ t with
 |error x=>
  rw[hp]at LY;have hx:(jR x:Int)≠0:=by have:=zg hp;omega
  obtain⟨c,hc⟩:∃z:Int,(jR x:Int)=z:=⟨_,rfl⟩;obtain⟨d,hd⟩:∃z:Int,(se x:Int)=z:=⟨_,rfl⟩;have ZP:Hid (Cw 40 #[.string t,Iq w,Iq h,.slice sp sn sc] U fun e u'=>e=Rw (.tuple #[.slice none 0 0,Iq c,Iq d])/\Hid (Bt U u')):=LY.mono fun e w' q=>⟨by have:=q.2;grind,q.1⟩;have Yn:(c==0)=false:=by rw[<-hc];simpa using hx
  have HC:=qH hc;have HD:=qH hd;clear LY hc hd hx;go_enter func25,ntmps25;go_wp2_with(go_at_call 40;refine ZP.mono ?_;rintro e U1 ⟨rfl,HB1⟩);refine bodyPost_ret (results_tmp3 rfl _ _ _) rfl ?_;refine⟨HB1,?_⟩;dsimp only;rw[HC.out,HD.out];rfl
 |ok L=>
  rw[hp]at LY;by_cases hr:1<=w/\w<=400/\1<=h/\h<=400;case neg=>
   have ZP:Hid (Cw 40 #[.string t,Iq w,Iq h,.slice sp sn sc] U fun e u'=>e=Rw (.tuple #[.slice none 0 0,Iq 6,Iq 0])/\Hid (Bt U u')):=LY.mono fun e w' q=>by
    obtain⟨hb,q⟩:=q;rcases q with⟨_,q⟩|⟨q,_⟩;·exact⟨q,hb⟩
    ·exact absurd q hr
   clear LY;go_enter func25,ntmps25;go_wp2_with(go_at_call 40;refine ZP.mono ?_;rintro e U1 ⟨rfl,HB1⟩);refine bodyPost_ret (results_tmp3 rfl _ _ _) rfl ?_;exact⟨HB1,.inl ⟨hr,rfl⟩⟩
  have hT:=eE (dB hp);have nQ:=hT.vl.cnt;have fW:=hT.pos;obtain⟨W,rfl⟩:∃W:Nat,w=(W:Int):=⟨w.toNat,by omega⟩;obtain⟨H,rfl⟩:∃H:Nat,h=(H:Int):=⟨h.toNat,by omega⟩;have hW:1<=W/\W<=400:=by omega
  have hH:1<=H/\H<=400:=by omega
  have HT:=qH hT;have ZP:Hid (Cw 40 #[.string t,Iq W,Iq H,.slice sp sn sc] U fun e u'=>∃pb,e=Rw (.tuple #[Sq pb L.length L.length,Iq 0,Iq 0])/\Hid (Bt U u')/\∃P,Hid (cQ L Wd Hf W H aX off sn P L.length)/\Hid (u'.rowIs pb 102 (L.length*10) (zM P))):=LY.mono fun e u' q=>by
   obtain⟨hb,q⟩:=q;rcases q with⟨q,_⟩|⟨_,pb,P,q2,q3,q4,_⟩;·exact absurd hr q
   ·exact⟨pb,q2,hb,P,q4,q3⟩
  have XA:Hid (∀u,Bt U u->Cw 19 #[.string t] u fun e w'=>∃g cap KV,e=Rw (.tuple #[Sq g L.length cap,Iq 0,Iq 0])/\Hid (Sw w' w'.heap.size g L KV)/\Hid (u.heap.size<=g)/\Hid (Bt u w')):=fun u hu=>by
   have:=tparse_any t E u (hG.cells hu) (hA.below hu) (hE.below hu);rw[hp]at this;refine this.mono fun e w' q=>?_;obtain⟨hb,nv,KV,rfl,hn⟩:=q;obtain⟨g,cap,rfl,hug⟩:∃g cap,nv=Sq g L.length cap/\u.heap.size<=g:=by obtain⟨xs,hx⟩:=hn.nr.row;grind[de]
   exact⟨g,cap,KV,rfl,hn.ndv (ae _),hug,hb⟩
  have ST:Hid (∀u r g cap KV,Sw u r g L KV->Cw 45 #[Sq g L.length cap] u fun e u'=>∃sb,e=Rw (Sq sb L.length L.length)/\Hid (ib u' sb 0 L.length (fun j=>(sty L j).1) (fun j=>(sty L j).2.1) (fun j=>(sty L j).2.2))/\Hid (u.heap.size<=sb)/\Hid (Bt u u')):=fun u r g cap KV hv=>Aa HT.gr.upl nQ u r g cap hv;have NW:Hid (∀u,Cw 16 #[Iq W,Iq H] u fun e u'=>∃K M,e=Rw (.tuple #[Pq K,Iq 0])/\Hid (CS 84 47 u' K M (W*H) W H (fun _ _=>bk 0 0 0))/\Hid (u.heap.size<=K/\u.heap.size<=M)/\Hid (Bt u u')):=fun u=>(Pz W H u hW hH).mono fun e u' ⟨K,M,h1,h2,h3,h4,h5⟩=>⟨K,M,h1,h2,⟨h3,h4⟩,h5⟩;have HTB:=qH ht;clear LY hp hG hA hE Hy Ep ht hT;go_enter func25,ntmps25;go_wp2_with(first
   |(go_at_call 40;refine ZP.mono ?_;rintro e u1 ⟨pb,rfl,HB1,P,HPL,vM⟩)
   |(go_at_call 19;refine ai (XA _ HB1) ?_;rintro e u2 ⟨g,cap,KV,rfl,HN2,qT,HB2⟩)
   |(go_at_call 16;refine ai (NW _) ?_;rintro e u3 ⟨K,M,rfl,HC3,HK3,fm⟩;have HN3:=qH<|HN2.grown (aa fm))
   |(go_at_call 45;refine ai (ST _ _ _ _ _ HN3) ?_;rintro e u4 ⟨sb,rfl,HW4,HS4,HB4⟩)
   |fail);obtain⟨B,hB⟩:=af u4.heap.size;obtain⟨u5,hu5⟩:=af (u4.alloc (.cells #[Pq K,Iq 0,Iq 0,Iq 0,Iq 0,Iq 0,Iq 0,Iq 0] 117));have Mo:Hid (R8 u5 B K 0 0 0 0 0 0 0):=by rw[<-hu5,<-hB];exact heap_alloc_new _ _
  have Sn:Hid (Gr u4 u5):=by rw[<-hu5];exact(Gr.refl u4).alloc _
  have ZX:=HB2.size;have h23:=fm.size;have Te:=HB4.size;have ZW:=HB1.size;have HU2:=qH<|HB1.trans (HB2.mono ZW);have HU3:=qH<|HU2.trans (fm.mono (by omega));have HU4:=qH<|HU3.trans (HB4.mono (by omega));have HU5:=qH<|HU4.trans (Sn.below.mono (by omega));have hKl:K<B:=by rw[<-hB];exact zz007 HC3.klt Te
  have vQ:M<B:=by rw[<-hB];exact zz007 HC3.cv.lt Te
  have hUB:U.heap.size<=B:=by rw[<-hB];omega
  have hUM:U.heap.size<=M:=by have:=HK3.out.2;omega
  have _W:=qH<|HB4.trans (Sn.below.mono Te);have AJ:Hid (CS 84 47 u5 K M (W*H) W H (fun _ _=>bk 0 0 0)):=⟨(_W.block K HC3.klt).trans HC3.kb,HC3.cv.keep (_W.block M HC3.cv.lt),HC3.ne,HC3.hc⟩;have HN5:=qH<|HN3.grown (aa _W);have kM:g<B:=by rw[<-hB];have:=HN3.gl;omega
  have hgM:g≠M:=by have:=HN2.gl;have:=HK3.out.2;omega
  have HW5:=qH<|HW4.below Sn.below;have pR:sb<B:=by rw[<-hB];exact HW4.1
  have hsM:sb≠M:=by have:=HS4.out;have:=HC3.cv.lt;omega
  have HP5:=qH<|rowIs_below vM ((HB2.trans (fm.mono ZX)).trans (_W.mono (by omega)));have Hv:pb<B:=by rw[<-hB];have:=vM.lt;omega
  have hpM:pb≠M:=by have:=vM.lt;have:=HK3.out.2;omega
  have H5:Hid (u5.heap.size=B+1):=by show _=_;rw[<-hu5,aA,hB]
  rw[hu5,hB];obtain⟨n,hn⟩:=af L.length;have ZC:=qH hn;have zkp:n<=100:=by omega
  rw[hn];clear hn;clear HB1 HB2 fm HB4 HN2 HN3 HC3 HK3 HW4 HS4 vM Sn HU2 HU3 HU4 _W hu5 hB ZP XA ST NW qT;go_loopw[54] (fun iv wr=>∃k:Nat,k<=n/\iv=Iq (k:Int)/\Hid (Cv 47 wr M W H (frK W H L P k))/\Hid (Bt U wr)/\Hid (∀b,b<B->b≠M->wr.heap[b]?=u5.heap[b]?)/\Hid (B<wr.heap.size)/\∃f0 f1 f2 c0 c1 c2 c3,Hid (R8 wr B K f0 f1 f2 c0 c1 c2 c3)) (fun iv _=>n-(intOf iv).toNat);case atStart=>exact⟨0,bm _,rfl,AJ.cv,HU5,fun b _ _=>rfl,by show _<_;rw[H5.out];omega,_,_,_,_,_,_,_,Mo⟩
  case round=>
   obtain⟨k,hk,rfl,HV,HU,Zz,HBl,f0,f1,f2,c0,c1,c2,c3,HR⟩:=hrel;by_cases hlt:k<n
   ·have aR:(k:Int)<(n:Int):=by omega
    have cZ:k<L.length:=by have:=ZC.out;omega
    have dU:=qH<|fun t v hv=>(ba (a:=(aq g (k*16+t))) (Zz g kM hgM)).trans (HN5.nd k cZ t v hv);rw[kF (HN5.len k cZ)]at dU;obtain⟨pk,ck,xH,_⟩:=HN5.kid k cZ;have HST:Hid (wr.cell? (aq sb (k*3))=some (Iq (sty L k).1)/\wr.cell? (aq sb (k*3+1))=some (Iq (sty L k).2.1)/\wr.cell? (aq sb (k*3+2))=some (Iq (sty L k).2.2)):=by have q:=HW5.2 k cZ;rw[cB]at q;have e:=fun o=>ba (a:=(aq sb o)) (Zz sb pR hsM);exact⟨(e _).trans q.1,(e _).trans q.2.1,(e _).trans q.2.2⟩
    have Jp:=qH<|fun t ht=>(ba (a:=(aq pb (k*10+t))) (Zz pb Hv hpM)).trans (bu HP5 cZ ht);have hbd:=HPL.bd k cZ;have _p:=HPL.onScr HT (by omega) (by omega) (k+1) k (by omega) cZ;have OQ:=HT.vl.tl k cZ;have eV:=HT.sz;have yC:Hid (frK W H L P (k+1)=Ir W H (sty L k).1 (sty L k).2.1 (sty L k).2.2 (P k 4) (P k 5) (P k 6) (P k 7) (ac L k).kind (aC (ac L k) 6) (aC (ac L k) 7) (aC (ac L k) 8) (aC (ac L k) 10) (ac L k).text (P k 0) (P k 1) (P k 2) (P k 3) (frK W H L P k)):=rfl;rw[xH]at dU;have y0:wr.cell? (aq pb (k*10))=some (Iq (P k 0)):=Jp 0 (by omega);have y1:=Jp 1 (by omega);have y2:=Jp 2 (by omega);have y3:=Jp 3 (by omega);have y4:=Jp 4 (by omega);have y5:=Jp 5 (by omega);have y6:=Jp 6 (by omega);have y7:=Jp 7 (by omega);obtain⟨st0,cC,eX⟩:=HST.out;unfold GJ at _p;generalize P k 0=p0 at y0 yC hbd;generalize P k 1=p1 at y1 yC hbd;generalize P k 2=p2 at y2 yC hbd;generalize P k 3=p3 at y3 yC hbd;generalize P k 4=p4 at y4 yC _p;generalize P k 5=p5 at y5 yC _p;generalize P k 6=p6 at y6 yC _p;generalize P k 7=p7 at y7 yC _p;generalize(sty L k).1=s0 at st0 yC;generalize(sty L k).2.1=s1 at cC yC;generalize(sty L k).2.2=s2 at eX yC;generalize((ac L k).kind:Int)=kd at dU yC;generalize aC (ac L k) 0=a0 at dU;generalize aC (ac L k) 1=a1 at dU;generalize aC (ac L k) 2=a2 at dU;generalize aC (ac L k) 3=a3 at dU;generalize aC (ac L k) 4=a4 at dU;generalize aC (ac L k) 5=a5 at dU;generalize aC (ac L k) 6=a6 at dU yC;generalize aC (ac L k) 7=a7 at dU yC;generalize aC (ac L k) 8=a8 at dU yC;generalize aC (ac L k) 9=a9 at dU;generalize aC (ac L k) 10=b0 at dU yC;generalize aC (ac L k) 11=b1 at dU;generalize(ac L k).up=up at dU;generalize(ac L k).kids.length=kl at dU;obtain⟨tx,oM⟩:∃z:ByteArray,⟨(ac L k).text.toArray⟩=z:=⟨_,rfl⟩;have htd:tx.data.toList=(ac L k).text:=by rw[<-oM]
    have As:tx.size<=100000:=by rw[<-oM];show(ac L k).text.toArray.size<=_;rw[kQ];omega
    rw[oM]at dU;rw[<-htd]at yC;have q0:wr.cell? (aq g (k*16))=some (Iq kd):=dU 0 _ rfl;have q1:=dU 1 _ rfl;have q2:=dU 2 _ rfl;have q3:=dU 3 _ rfl;have q4:=dU 4 _ rfl;have q5:=dU 5 _ rfl;have q6:=dU 6 _ rfl;have q7:=dU 7 _ rfl;have q8:=dU 8 _ rfl;have q9:=dU 9 _ rfl;have _G:=dU 10 _ rfl;have _H:=dU 11 _ rfl;have _I:=dU 12 _ rfl;have _J:=dU 13 _ rfl;have _K:=dU 14 _ rfl;have _L:=dU 15 _ rfl;obtain⟨A,hA⟩:=af wr.heap.size;obtain⟨W1,bZ⟩:=af (wr.alloc (.cells #[Iq kd,Iq a0,Iq a1,Iq a2,Iq a3,Iq a4,Iq a5,Iq a6,Iq a7,Iq a8,Iq a9,Iq b0,Iq b1,.string tx,.slice pk kl ck,Iq up] 94));have HG1:Hid (Gr wr W1):=by rw[<-bZ];exact(Gr.refl wr).alloc _
    have zv:W1.heap[A]?=some (.cells #[Iq kd,Iq a0,Iq a1,Iq a2,Iq a3,Iq a4,Iq a5,Iq a6,Iq a7,Iq a8,Iq a9,Iq b0,Iq b1,.string tx,.slice pk kl ck,Iq up] 94 (0,0)):=by rw[<-bZ,<-hA];exact heap_alloc_new _ _
    have hr1:R8 W1 B K f0 f1 f2 c0 c1 c2 c3:=(HG1.block HBl).trans HR;have hBA:B<A:=by rw[<-hA];exact HBl
    have x0:=cW HG1.below y0;have x1:=cW HG1.below y1;have x2:=cW HG1.below y2;have x3:=cW HG1.below y3;have x4:=cW HG1.below y4;have x5:=cW HG1.below y5;have x6:=cW HG1.below y6;have x7:=cW HG1.below y7;have v0:=cW HG1.below st0;have v1:=cW HG1.below cC;have v2:=cW HG1.below eX;have r0:W1.cell? (aq B 0)=some (Pq K):=by rw[Lib.cell_of_heap (show W1.heap[B]?=_ from hr1)];rfl
    have r1:W1.cell? (aq B 1)=some (Iq f0):=by rw[Lib.cell_of_heap (show W1.heap[B]?=_ from hr1)];rfl
    have r2:W1.cell? (aq B 2)=some (Iq f1):=by rw[Lib.cell_of_heap (show W1.heap[B]?=_ from hr1)];rfl
    have r3:W1.cell? (aq B 3)=some (Iq f2):=by rw[Lib.cell_of_heap (show W1.heap[B]?=_ from hr1)];rfl
    have r4:W1.cell? (aq B 4)=some (Iq c0):=by rw[Lib.cell_of_heap (show W1.heap[B]?=_ from hr1)];rfl
    have r5:W1.cell? (aq B 5)=some (Iq c1):=by rw[Lib.cell_of_heap (show W1.heap[B]?=_ from hr1)];rfl
    have r6:W1.cell? (aq B 6)=some (Iq c2):=by rw[Lib.cell_of_heap (show W1.heap[B]?=_ from hr1)];rfl
    have r7:W1.cell? (aq B 7)=some (Iq c3):=by rw[Lib.cell_of_heap (show W1.heap[B]?=_ from hr1)];rfl
    have Wp:∀j,W1.frozen? (aq B j)=false:=fun j=>frozen_of_row _ _ _ _ _ hr1;have HR1:=qH hr1;have HN1:=qH zv;clear dU xH oM htd HST Jp HR hr1 zv OQ;go_wp2_with fail;clear bZ hA q0 q1 q2 q3 q4 q5 q6 q7 q8 q9 _G _H _I _J _K _L y0 y1 y2 y3 y4 y5 y6 y7 st0 cC eX;go_region;obtain⟨W2,qd⟩:=af (((((((W1.setCell (aq B 1) (.int .i64 s0)).setCell (aq B 2) (.int .i64 s1)).setCell (aq B 3) (.int .i64 s2)).setCell (aq B 4) (.int .i64 p4)).setCell (aq B 5) (.int .i64 p5)).setCell (aq B 6) (.int .i64 p6)).setCell (aq B 7) (.int .i64 p7)).drew;have HR2:Hid (R8 W2 B K s0 s1 s2 p4 p5 p6 p7):=by rw[<-qd];exact HR1.seven s0 s1 s2 p4 p5 p6 p7
    have HC2:Hid (bK B W1 W2):=by rw[<-qd];exact((((((((bK.refl B W1).set (.inl rfl) 1 _).set (.inl rfl) 2 _).set (.inl rfl) 3 _).set (.inl rfl) 4 _).set (.inl rfl) 5 _).set (.inl rfl) 6 _).set (.inl rfl) 7 _).drewn
    rw[qd];clear qd;have nD:=qH<|(az.1 HN1).1;have ZK:=qH HC2.size;have HL2:Hid (∀b,b<B->W2.heap[b]?=wr.heap[b]?):=fun b hb=>(HC2.block b (by have:=nD.out;omega) (by omega)).trans (HG1.block (by have:=HBl.out;omega));have HU2:=qH<|HC2.low hUB (by have:=nD.out;omega) (HU.trans (HG1.below.mono (by have:=HBl.out;omega)));have HCS:Hid (CS 84 47 W2 K M (W*H) W H (frK W H L P k)):=⟨(HL2 K hKl).trans ((Zz K hKl AJ.ne).trans AJ.kb),HV.keep (HL2 M vQ),AJ.ne,AJ.hc⟩;have HS:Hid (∀u,bK M W2 u->u.cell? (aq B 0)=some (Pq K)/\u.cell? (aq B 1)=some (Iq s0)/\u.cell? (aq B 2)=some (Iq s1)/\u.cell? (aq B 3)=some (Iq s2)/\u.cell? (aq B 4)=some (Iq p4)/\u.cell? (aq B 5)=some (Iq p5)/\u.cell? (aq B 6)=some (Iq p6)/\u.cell? (aq B 7)=some (Iq p7)/\u.cell? (aq A 0)=some (Iq kd)/\u.cell? (aq A 1)=some (Iq a0)/\u.cell? (aq A 2)=some (Iq a1)/\u.cell? (aq A 3)=some (Iq a2)/\u.cell? (aq A 4)=some (Iq a3)/\u.cell? (aq A 5)=some (Iq a4)/\u.cell? (aq A 6)=some (Iq a5)/\u.cell? (aq A 7)=some (Iq a6)/\u.cell? (aq A 8)=some (Iq a7)/\u.cell? (aq A 9)=some (Iq a8)/\u.cell? (aq A 10)=some (Iq a9)/\u.cell? (aq A 11)=some (Iq b0)/\u.cell? (aq A 12)=some (Iq b1)/\u.cell? (aq A 13)=some (.string tx)/\u.cell? (aq A 14)=some (.slice pk kl ck)/\u.cell? (aq A 15)=some (Iq up)/\u.cell? (aq pb (k*10))=some (Iq p0)/\u.cell? (aq pb (k*10+1))=some (Iq p1)/\u.cell? (aq pb (k*10+2))=some (Iq p2)/\u.cell? (aq pb (k*10+3))=some (Iq p3)):=fun u hu=>by
     have e1:=(hu.block B (by have:=nD.out;have:=ZK.out;omega) (by omega)).trans HR2;have e2:=(hu.block A (by have:=nD.out;have:=ZK.out;omega) (by omega)).trans ((HC2.block A nD (by omega)).trans HN1);have e3:=fun o=>ba (a:=(aq pb o)) ((hu.block pb (by have:=nD.out;have:=ZK.out;omega) hpM).trans (HC2.block pb (by have:=nD.out;omega) (by omega)));refine⟨?_,?_,?_,?_,?_,?_,?_,?_,?_,?_,?_,?_,?_,?_,?_,?_,?_,?_,?_,?_,?_,?_,?_,?_,(e3 _).trans x0,(e3 _).trans x1,(e3 _).trans x2,(e3 _).trans x3⟩;all_goals first
      |(rw[Lib.cell_of_heap e1];rfl)
      |(rw[Lib.cell_of_heap e2];rfl)
    have PA:Hid (∀u,u=W2\/u=W2.drew->Cw 46 #[.agg #[Pq K,Iq s0,Iq s1,Iq s2,Iq p4,Iq p5,Iq p6,Iq p7],.agg #[Iq kd,Iq a0,Iq a1,Iq a2,Iq a3,Iq a4,Iq a5,Iq a6,Iq a7,Iq a8,Iq a9,Iq b0,Iq b1,.string tx,.slice pk kl ck,Iq up],.agg #[Iq p0,Iq p1,Iq p2,Iq p3]] u fun e u'=>e=Rw (.tuple #[])/\Hid (Cv 47 u' M W H (frK W H L P (k+1)))/\Hid (bK M W2 u')):=fun u hu=>by
     have hcu:bK M W2 u:=by rcases hu with rfl|rfl<;>first|exact bK.refl _ _|exact(bK.refl _ _).drewn
     have _f:∀b:Nat,u.heap[b]?=W2.heap[b]?:=by rcases hu with rfl|rfl<;>exact fun _=>rfl
     rw[yC.out];refine(K9 U u (K:=K) (M:=M) (cap:=W*H) ⟨(_f K).trans HCS.kb,HCS.cv.keep (_f M),HCS.ne,HCS.hc⟩ hW hH (PAll.frK hW hH L P k) HTB (hcu.low hUM (by have:=HU2.size;omega) HU2) hUM s0 s1 s2 p4 p5 p6 p7 kd a0 a1 a2 a3 a4 a5 a6 a7 a8 a9 b0 b1 up tx (.slice pk kl ck) p0 p1 p2 p3 As ?_ ?_ ?_ ?_ ?_ ?_).mono fun e u' q=>⟨q.1,q.2.1,hcu.trans q.2.2⟩;all_goals omega
    obtain⟨g0,g1,g2,g3,g4,g5,g6,g7,g8,g9,g10,g11,g12,g13,g14,g15,g16,g17,g18,g19,g20,g21,g22,g23,g24,g25,g26,g27⟩:=HS W2 (bK.refl _ _);clear x0 x1 x2 x3 x4 x5 x6 x7 v0 v1 v2 r0 r1 r2 r3 r4 r5 r6 r7 Wp yC HN1 HR1 eV _p hbd;go_wp2_with fail;go_region_held(fun W_=>W_.cell? (aq B 0)=some (Pq K)/\W_.cell? (aq B 1)=some (Iq s0)/\W_.cell? (aq B 2)=some (Iq s1)/\W_.cell? (aq B 3)=some (Iq s2)/\W_.cell? (aq B 4)=some (Iq p4)/\W_.cell? (aq B 5)=some (Iq p5)/\W_.cell? (aq B 6)=some (Iq p6)/\W_.cell? (aq B 7)=some (Iq p7)/\W_.cell? (aq A 0)=some (Iq kd)/\W_.cell? (aq A 1)=some (Iq a0)/\W_.cell? (aq A 2)=some (Iq a1)/\W_.cell? (aq A 3)=some (Iq a2)/\W_.cell? (aq A 4)=some (Iq a3)/\W_.cell? (aq A 5)=some (Iq a4)/\W_.cell? (aq A 6)=some (Iq a5)/\W_.cell? (aq A 7)=some (Iq a6)/\W_.cell? (aq A 8)=some (Iq a7)/\W_.cell? (aq A 9)=some (Iq a8)/\W_.cell? (aq A 10)=some (Iq a9)/\W_.cell? (aq A 11)=some (Iq b0)/\W_.cell? (aq A 12)=some (Iq b1)/\W_.cell? (aq A 13)=some (.string tx)/\W_.cell? (aq A 14)=some (.slice pk kl ck)/\W_.cell? (aq A 15)=some (Iq up)/\W_.cell? (aq pb (k*10))=some (Iq p0)/\W_.cell? (aq pb (k*10+1))=some (Iq p1)/\W_.cell? (aq pb (k*10+2))=some (Iq p2)/\W_.cell? (aq pb (k*10+3))=some (Iq p3)) (go_keep) (first|(go_at_call 46;refine ai (PA _ (by first|exact .inl rfl|exact .inr rfl)) ?_;rintro e u6 ⟨rfl,HV6,HC6⟩;obtain⟨j0,j1,j2,j3,j4,j5,j6,j7,j8,j9,j10,j11,j12,j13,j14,j15,j16,j17,j18,j19,j20,j21,j22,j23,j24,j25,j26,j27⟩:=HS u6 HC6));all_goals
     have HR6:Hid (R8 u6 B K s0 s1 s2 p4 p5 p6 p7):=(HC6.block B (by have:=nD.out;have:=ZK.out;omega) (by omega)).trans HR2;have HK6:=qH<|fun b h1 h2=>(HC6.block b (by have:=nD.out;have:=ZK.out;omega) h2).trans ((HL2 b h1).trans (Zz b h1 h2));have HZ6:Hid (B<u6.heap.size):=by show _<_;have:=HC6.size;have:=nD.out;have:=ZK.out;omega
     have HU6:=qH<|HC6.low hUM (by have:=HU2.size;omega) HU2;go_wp2;go_roundw;case rel=>exact⟨k+1,hlt,by go_num,HV6,HU6,HK6,HZ6,_,_,_,_,_,_,_,HR6⟩
     case measure=>simp[intOf];omega
   ·have aR:¬(k:Int)<(n:Int):=by omega
    obtain rfl:k=n:=by omega
    have wC:wr.cell? (aq B 0)=some (Pq K):=by rw[Lib.cell_of_heap HR.out];rfl
    have VE:Hid (CS 84 47 wr K M (W*H) W H (frK W H L P k)):=⟨(Zz K hKl AJ.ne).trans AJ.kb,HV,AJ.ne,AJ.hc⟩;have CE:Hid (Cw 27 #[Pq K] wr fun e w'=>∃N cH,e=Rw (Sq N (W*H) cH)/\Hid (Cv 47 w' N W H (frK W H L P k))/\Hid (wr.heap.size<=N)/\Hid (Bt wr w'/\W*H<=cH/\cH<=9223372036854775807)):=xr wr VE hW hH;go_wp2_with(go_at_call 27;refine CE.mono ?_;rintro e u6 ⟨N,zfz,rfl,HV6,_8,Vz⟩);refine bodyPost_ret (results_tmp3 rfl _ _ _) rfl ?_;exact⟨HU.trans (Vz.out.1.mono HU.size),.inr ⟨W,H,rfl,rfl,hW,hH,N,zfz,P,HPL,rfl,by rw[ZC.out];exact HV6,aH HU.size _8,Vz.out.2⟩⟩
theorem AF.wrL{W H:Nat}(hW:1<=W/\W<=400)(hH:1<=H/\H<=400)(f g bd cx cy ca cb x y:Int)(s:List UInt8){c:Nat->Nat->Ce}(h:PAll W H c/\AF W H c):PAll W H (wrL W H f g bd cx cy ca cb x y s c)/\AF W H (wrL W H f g bd cx cy ca cb x y s c):=by
 unfold Go.Proofs.YtadhgppeafpdgaaGreatDoor.wrL;split;·exact h
 ·exact pG W H f g bd cx cy ca cb (P:=fun c=>PAll W H c/\AF W H c) y _ x c (fun q hq x c hc=>⟨hc.1.putX hW hH _ _ _ _ _ _ _ _ _ _ _,hc.2.put hc.1 hW hH _ _ _ _ _ _ _ _ _ _ _ (Td hq)⟩) h
theorem BD{W H:Nat}(hW:1<=W/\W<=400)(hH:1<=H/\H<=400)(L:List Nd)(P:Nat->Nat->Int)(k:Nat):PAll W H (frK W H L P k)/\AF W H (frK W H L P k):=
 oG (Q:=fun c=>PAll W H c/\AF W H c) ⟨PAll.blank W H,fun _ _ _ _=>Of 0 0 0⟩ (fun c _ _ _ _ _ _ _ _ _ _ _ hc=>⟨hc.1.filX hW hH _ _ _ _ _ _ _ _ _ _ _,hc.2.fil hc.1 hW hH _ _ _ _ _ _ _ _ _ _ _⟩) (fun _ _ _ _ _ _ _ _ _ _ c hc=>AF.wrL hW hH _ _ _ _ _ _ _ _ _ _ hc) k
