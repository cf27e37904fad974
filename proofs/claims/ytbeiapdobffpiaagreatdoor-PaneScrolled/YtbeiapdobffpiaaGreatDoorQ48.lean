import Derived.Test.YtbeiapdobffpiaaGreatDoorQ38
import Derived.Test.YtbeiapdobffpiaaGreatDoorQ30
import Derived.Test.YtbeiapdobffpiaaGreatDoorQ47
set_option linter.all false
set_option maxRecDepth 100000
set_option maxHeartbeats 16000000
namespace Go.Proofs.YtbeiapdobffpiaaGreatDoor
open Go.RowKit Go.Sort Go.Proofs.Tryz
theorem PO  t  :∃Wd H,∀L,b9 t=.ok L->Sz L Wd H:=by
 cases hp:b9 t with
 |error x=>simp_all
 |ok L=>obtain⟨Wd,H,hS⟩:=Yu (eQ (c_ hp)).nest;exact⟨Wd,H,fun L' q=>by grind⟩
def zaC(U U':World)(w h:Int)(aX off:Nat->Int)(sn:Nat)(Wd:Nat->Int)(H:Nat->Int->Int)(r:Except (Option (Nat×Nat)) (List Nd))(e:Ending):Prop:=Bt U U'/\match r with
 |.error x=>e=Rw (.tuple #[.slice none 0 0,Iq (jy x:Int),Iq (qw x:Int)])
 |.ok L=>(¬(1<=w/\w<=400/\1<=h/\h<=400)/\e=Rw (.tuple #[.slice none 0 0,Iq 6,Iq 0]))\/((1<=w/\w<=400/\1<=h/\h<=400)/\∃pb P,e=Rw (.tuple #[Sq pb L.length L.length,Iq 0,Iq 0])/\U'.rowIs pb 76 (L.length*10) (j6 P)/\dV L Wd H w h aX off sn P L.length/\U.heap.size<=pb)
theorem GU(t:ByteArray)(w h:Int)(sp:Option Addr)(sn sc:Nat)(aX off:Nat->Int)(E:Nat->Addr)(U:World)(hG:xX U E)(hA:io U E)(hE:xW U)(ht:dC U)(hsc:pH U sp sn aX off)(EG:sn<=4611686018427387904)(hsp:∀a:Addr,sp=some a->a.block<U.heap.size)(Wd:Nat->Int)(H:Nat->Int->Int)(hSz:∀L,b9 t=.ok L->Sz L Wd H):
 Cw 20 #[.string t,Iq w,Iq h,.slice sp sn sc] U fun e U'=>zaC U U' w h aX off sn Wd H (b9 t) e:=by
 have HSz:Hid (∀L,b9 t=.ok L->Sz L Wd H):=hSz;clear hSz;have TP:Hid (Cw 14 #[.string t] U fun e w'=>Qy U w' e (b9 t)):=tparse_any t E U hG hA hE;have SD:Hid (∀n u,Cw 34 #[Iq n] u fun e w'=>e=Rw (.bool (decide (1<=n/\n<=400)))/\w'=u):=C7;have HT:Hid (dC U/\pH U sp sn aX off):=⟨ht,hsc⟩;clear hG hA hE ht hsc;go_enter func20,ntmps20;go_wp2_with fail;refine TP.mono ?_;rintro e U1 ⟨hb1,hr⟩;have HB1:Hid (Bt U U1):=hb1;clear hb1 TP;cases hp:b9 t with
 |error x=>
  rw[hp]at hr;subst hr;have hx:(jy x:Int)≠0:=by have:=wC hp;omega
  have m6:((jy x:Int)!=0)=true:=by simpa using hx
  have II:Hid (b9 t=.error x):=hp;obtain⟨c,hc⟩:∃z:Int,(jy x:Int)=z:=⟨_,rfl⟩;have HCE:Hid ((jy x:Int)=c):=hc;rw[hc]at hx m6⊢;clear hp hc;go_wp2;refine bodyPost_ret (results_tmp3 rfl _ _ _) rfl ?_;rw[II.out];exact⟨HB1,by show _=_;rw[HCE.out];rfl⟩
 |ok L=>
  rw[hp]at hr;obtain⟨nv,KV,rfl,hn⟩:=hr;have hT:dk t L:=eQ (c_ hp);have hS:=HSz L hp;have dL:=hT.pos;obtain⟨g,al,rfl⟩:∃g al,nv=Sq g L.length al:=by obtain⟨xs,hx⟩:=hn.nr.row;grind[cD]
  have HN:Hid (PN U1 U.heap.size (Sq g L.length al) L KV):=hn;have II:Hid (b9 t=.ok L):=hp;clear hn hp;by_cases hw:1<=w/\w<=400
  ·by_cases hh:1<=h/\h<=400
   ·have S1:Hid (∀u,Cw 34 #[Iq w] u fun e w'=>e=Rw (.bool true)/\w'=u):=fun u=>by have:=SD w u;grind
    have S2:Hid (∀u,Cw 34 #[Iq h] u fun e w'=>e=Rw (.bool true)/\w'=u):=fun u=>by have:=SD h u;grind
    have NM:Hid (Cw 35 #[Sq g L.length al] U1 fun e u'=>∃mb r wb,e=Rw (Pq mb)/\Hid (Bt U1 u'/\Hs u' mb r g al wb L KV Wd H 0/\U1.heap.size<=r)):=by refine(sE g al hT hS U1 _ HN (HT.1.below HB1)).mono ?_;rintro e u' ⟨mb,r,wb,h1,h2,h3,h4⟩;exact⟨mb,r,wb,h1,h2,h3,h4⟩
    have PL:Hid (∀u mb r wb,Bt U1 u->Hs u mb r g al wb L KV Wd H 0->Cw 36 #[Pq mb,Iq w,Iq h,.slice sp sn sc] u fun e u'=>∃pb,e=Rw (Sq pb L.length L.length)/\Hid (∃P,u'.rowIs pb 76 (L.length*10) (j6 P)/\dV L Wd H w h aX off sn P L.length/\u.grownBy u' (some r)/\u.heap.size<=pb)):=fun u mb r wb hu WY=>by have iY:=HB1.trans (hu.mono HB1.size);refine(Ds mb r g al wb hT hS w h sp sn sc aX off u WY hw hh (HT.2.below iY) EG (fun a e=>bn (hsp a e) iY.size)).mono ?_;rintro e u' ⟨pb,P,h1,h2,h3,h4,h5⟩;exact⟨pb,h1,P,h2,h3,h4,h5⟩
    clear SD HT;go_wp2_with(first|(go_at_call 34;(with_reducible refine am (S1.out _) ?_);rintro e u5 ⟨rfl,h5⟩;obtain rfl:=h5.symm)|(go_at_call 34;(with_reducible refine am (S2.out _) ?_);rintro e u5 ⟨rfl,h5⟩;obtain rfl:=h5.symm)|(go_at_call 35;refine am NM.out ?_;rintro e u6 ⟨mb,r,wb,rfl,HH⟩)|(go_at_call 36;refine am (PL.out _ _ _ _ HH.out.1 HH.out.2.1) ?_;rintro e u7 ⟨pb,rfl,HZ⟩));all_goals refine bodyPost_ret (results_tmp3 rfl _ _ _) rfl ?_;rw[II.out];obtain⟨P,z1,z2,z3,z4⟩:=HZ.out;obtain⟨q1,q2,q3⟩:=HH.out;have hb1:=HB1.out;have oP:=hb1.trans (q1.mono hb1.size);have hle:=hb1.size;have zcf:=oP.size;refine⟨oP.grown z3 zcf (fun k hk=>by grind),?_⟩;exact .inr ⟨⟨hw.1,hw.2,hh.1,hh.2⟩,pb,P,rfl,z1,z2,by omega⟩
   ·have S1:Hid (∀u,Cw 34 #[Iq w] u fun e w'=>e=Rw (.bool true)/\w'=u):=fun u=>by have:=SD w u;grind
    have S2:Hid (∀u,Cw 34 #[Iq h] u fun e w'=>e=Rw (.bool false)/\w'=u):=fun u=>by have:=SD h u;grind
    clear SD HT HN;go_wp2_with(first|(go_at_call 34;(with_reducible refine am (S1.out _) ?_);rintro e u5 ⟨rfl,h5⟩;obtain rfl:=h5.symm)|(go_at_call 34;(with_reducible refine am (S2.out _) ?_);rintro e u5 ⟨rfl,h5⟩;obtain rfl:=h5.symm));all_goals refine bodyPost_ret (results_tmp3 rfl _ _ _) rfl ?_;rw[II.out];exact⟨HB1,.inl ⟨fun q=>hh ⟨q.2.2.1,q.2.2.2⟩,rfl⟩⟩
  ·have S1:Hid (∀u,Cw 34 #[Iq w] u fun e w'=>e=Rw (.bool false)/\w'=u):=fun u=>by have:=SD w u;grind
   clear SD HT HN;go_wp2_with(go_at_call 34;refine am (S1 _) ?_;rintro e u5 ⟨rfl,h5⟩;obtain rfl:=h5.symm);all_goals refine bodyPost_ret (results_tmp3 rfl _ _ _) rfl ?_;rw[II.out];exact⟨HB1,.inl ⟨fun q=>hw ⟨q.1,q.2.1⟩,rfl⟩⟩
theorem xi{fn:Func}{t u v x}(h:fn.results=#[.tmp t,.tmp u,.tmp v,.tmp x])  tmps   P   w  :
 (results fn tmps).run P w=.ok (.tuple #[tmps.getD t undef,tmps.getD u undef,tmps.getD v undef,tmps.getD x undef]) w:=by simp[results,h]
theorem Pt(t:ByteArray)(w h:Int)(sp:Option Addr)(sn sc:Nat)(aX off:Nat->Int)(U:World)(hsc:pH U sp sn aX off)(EG:sn<=4611686018427387904){L:List Nd}(hp:b9 t=.ok L){Wd:Nat->Int}{H:Nat->Int->Int}(hZ:Sz L Wd H)(hs:1<=w/\w<=400/\1<=h/\h<=400):
 Cw 22 #[.string t,Iq w,Iq h,.slice sp sn sc] U fun e U'=>∃g al pb P,e=Rw (.tuple #[Sq g L.length al,Sq pb L.length L.length,Iq 0,Iq 0])/\Hid (ip U' g L.length (ae L))/\Hid (U'.rowIs pb 82 (L.length*10) (j6 P))/\Hid (dV L Wd H w h aX off sn P L.length)/\Hid (Bt U U'):=by
 have RP:=sS t U;have hT:=eQ (c_ hp);have dL:=hT.pos;rw[c_ hp]at RP;have Wh:Hid (Cw 18 #[.string t] U fun e w'=>∃g al,e=Rw (.tuple #[Sq g L.length al,Iq 0,Iq 0])/\Hid (ip w' g L.length (ae L))/\Hid (Bt U w')):=RP.mono fun e w' q=>by
  obtain⟨h1,nv,AV,KV,h2,h3⟩:=q;obtain⟨g,al,hv,iU⟩:∃g al,nv=Sq g L.length al/\g<w'.heap.size:=by obtain⟨xs,hx⟩:=h3.nr.row;grind[cD]
  subst hv;exact⟨g,al,h2,h3.nds iU,h1⟩
 have PL:Hid (∀g al u,ip u g L.length (ae L)->Bt U u->Cw 39 #[Sq g L.length al,Iq w,Iq h,.slice sp sn sc] u fun e U'=>∃pb,e=Rw (Sq pb L.length L.length)/\Hid (BS u U' L Wd H w h aX off sn pb)):=fun g al u hu hb=>Ai hT hZ g al sp sn sc aX off w h u hu (hsc.below hb) EG ⟨hs.1,hs.2.1⟩ hs.2.2;obtain⟨s1,s2,s3,s4⟩:=hs;have t1:¬w<1:=by omega
 have t2:¬400<w:=by omega
 have t3:¬h<1:=by omega
 have t4:¬400<h:=by omega
 go_enter func22,ntmps22;go_wp2_with(first|(go_at_call 18;refine Wh.mono ?_;rintro e U1 ⟨g,al,rfl,HN1,HB1⟩)|(go_at_call 39;refine(PL _ _ _ HN1 HB1).mono ?_;rintro e U2 ⟨pb,rfl,HO⟩));all_goals refine bodyPost_ret (xi rfl _ _ _) rfl ?_;obtain⟨z1,P,z2,z3⟩:=HO.out;exact⟨g,al,pb,P,rfl,HN1.below z1,z2,z3,HB1.trans (z1.mono HB1.size)⟩
theorem Aj{L:List Nd}(g al:Nat)(id:Int)(U:World)(hN:ip U g L.length (ae L))(hLn:L.length<=100):
 Cw 19 #[Sq g L.length al,Iq id] U fun e U'=>e=Rw (Iq (l0 L id))/\U'=U:=by
 obtain⟨m,hm⟩:=aj L.length;have HN:=qH hN;have BO:Hid (l0 L id=if id=0 then-1 else xp L id 0 m):=by show _=_;rw[<-hm];rfl
 obtain⟨z,hz⟩:=aj (l0 L id);rw[hz]at BO⊢;rw[hm]at HN hLn⊢;clear hN hz hm;go_enter func19,ntmps19;go_wp2;go_loopw[5] (fun kv wr=>∃k:Nat,k<=m/\kv=Iq (k:Int)/\wr=U/\Hid (z=if id=0 then-1 else xp L id k (m-k))) (fun kv _=>m-(intOf kv).toNat);case atStart=>exact⟨0,bc _,rfl,rfl,BO⟩
 case round=>
  obtain⟨k,hk,rfl,rfl,HS⟩:=hrel;by_cases hlt:k<m
  ·have aK:(k:Int)<(m:Int):=by omega
   obtain⟨ab,kv,hd⟩:=HN.nd k hlt;have c0:=hd.c0;have c1:=hd.c1;have a0:wr.cell? (az ab 0)=some (Iq (aC (ae L k) 0)):=hd.att 0 (by omega);have hst:xp L id k (m-k)=if tV (ae L k) id=true then(k:Int)else xp L id (k+1) (m-(k+1)):=by rw[show m-k=(m-(k+1))+1 by omega];rfl
   have HST:Hid (xp L id k (m-k)=if(((ae L k).kind:Int)=4/\aC (ae L k) 0=id)then(k:Int)else xp L id (k+1) (m-(k+1))):=by show _=_;rw[hst];simp[tV]
   clear hst hd;generalize((ae L k).kind:Int)=kd at c0 HST;generalize aC (ae L k) 0=x at a0 HST;by_cases h4:kd=4
   ·subst h4;by_cases h0:id=0
    ·subst h0;go_wp2;go_roundw;case rel=>exact⟨k+1,by omega,by go_num,trivial,by show _=_;rw[HS.out];rfl⟩
     case measure=>simp[intOf];omega
    ·have e0:(id !=0)=true:=by simpa using h0
     by_cases hx:x=id;·subst hx;go_wp2;go_ret;exact⟨by rw[HS.out,if_neg h0,HST.out];simp,rfl⟩
     ·have e1:(x==id)=false:=by simpa using hx
      go_wp2;go_roundw;case rel=>exact⟨k+1,by omega,by go_num,trivial,by show _=_;rw[HS.out,if_neg h0,if_neg h0,HST.out];simp[hx]⟩
      case measure=>simp[intOf];omega
   ·have e4:(kd==4)=false:=by simpa using h4
    go_wp2;go_roundw;case rel=>exact⟨k+1,by omega,by go_num,trivial,by show _=_;rw[HS.out,HST.out];simp[h4]⟩
    case measure=>simp[intOf];omega
  ·have aK:¬(k:Int)<(m:Int):=by omega
   obtain rfl:k=m:=by omega
   go_wp2;go_ret;exact⟨by rw[HS.out];simp[xp],rfl⟩
def rt(W:World)(M:Nat)(w h:Int)(t:ByteArray)(f:Bool):Prop:=W.heap[M]?=some (.cells #[.string t,Iq w,Iq h,.slice none 0 0,.bool f] 64 (0,0))
theorem rt.cell{W:World}{M:Nat}{w h:Int}{t:ByteArray}{f:Bool}(q:rt W M w h t f):W.cell? (az M 0)=some (.string t)/\W.cell? (az M 1)=some (Iq w)/\W.cell? (az M 2)=some (Iq h)/\W.cell? (az M 3)=some (.slice none 0 0)/\∀j,W.frozen? (az M j)=false:=by unfold rt at q;refine⟨?_,?_,?_,?_,fun j=>frozen_of_row _ _ _ _ _ q⟩<;>simp[World.cell?,q]
def Vr(t text:ByteArray):ByteArray:=match b9 text with
 |.error _=>t
 |.ok _=>text
def RsO(U U':World)(M:Nat)(w h:Int)(t:ByteArray)(f:Bool)(e:Ending):Prop:=∃v,e=Rw v/\rt U' M w h t f/\U.grownBy U' (some M)
theorem Hd(M:Nat)(w h:Int)(t text:ByteArray)(f:Bool)(U:World)(hS:rt U M w h t f):
 Cw 6 #[Pq M,.string text] U fun e U'=>RsO U U' M w h (Vr t text) f e:=by
 have Ol:M<U.heap.size:=(aS.1 hS).1;have RP:=sS text U;unfold Vr;cases hp:b9 text with
 |error x=>
  have hx:(jy x:Int)≠0:=by have:=wC hp;omega
  rw[xf hp]at RP;obtain⟨c,hc⟩:∃z:Int,(jy x:Int)=z:=⟨_,rfl⟩;obtain⟨d,hd⟩:∃z:Int,(qw x:Int)=z:=⟨_,rfl⟩;have Wh:Hid (Cw 18 #[.string text] U fun e w'=>e=Rw (.tuple #[.slice none 0 0,Iq c,Iq d])/\Hid (Bt U w')):=RP.mono fun e w' q=>⟨by have:=q.2;dsimp only at this;rw[hc,hd]at this;exact this,q.1⟩;rw[hc]at hx;have m6:(c !=0)=true:=by simpa using hx
  have xJ:=qH hS;clear hS RP hp hc hd;go_enter func6,ntmps6;go_wp2_with(go_at_call 18;refine Wh.mono ?_;rintro e U1 ⟨rfl,HB1⟩);refine bodyPost_ret (results_tmp2 rfl _ _ _) rfl ?_;exact⟨_,rfl,(HB1.block M Ol).trans xJ,ac HB1⟩
 |ok L=>
  have hT:dk text L:=eQ (c_ hp);rw[c_ hp]at RP;have Wh:Hid (Cw 18 #[.string text] U fun e w'=>∃nv,e=Rw (.tuple #[nv,Iq 0,Iq 0])/\Hid (Bt U w')):=RP.mono fun e w' q=>by obtain⟨h1,nv,AV,KV,h2,h3⟩:=q;exact⟨nv,h2,h1⟩
  have xJ:=qH hS;clear hS RP hp hT;go_enter func6,ntmps6;go_wp2_with(go_at_call 18;refine Wh.mono ?_;rintro e U1 ⟨nv,rfl,HB1⟩);have H':Hid (rt U1 M w h t f):=(HB1.block M Ol).trans xJ;obtain⟨c0,c1,c2,c3,fz⟩:=H'.cell;go_loopw[9,10] (fun lv kv wr=>lv=.slice none 0 0/\kv=Iq 0/\wr=U1) (fun _ _ _=>0);case atStart=>exact⟨rfl,rfl,rfl⟩
  case round=>
   obtain⟨rfl,rfl,rfl⟩:=hrel;go_wp2;refine bodyPost_ret (results_tmp2 rfl _ _ _) rfl ?_;refine⟨_,rfl,?_,?_⟩;·exact heap_setCell_same _ M 0 _ _ _ (heap_setCell_same _ M 3 _ _ _ H')
   ·have hg:=ac (row:=some M) HB1.out;exact⟨hg.os,hg.tape,hg.output,by simpa using hg.size,fun b hb bG=>((cF _ (az M 0) _ b (fun e=>bG (by rw[e]))).trans (cF _ (az M 3) _ b (fun e=>bG (by rw[e])))).trans (hg.block b hb bG)⟩
def RoO(U U':World)(sc:Int)(e:Ending):Prop:=∃x y,e=Rw (.tuple #[x,y,Iq (if sc<0 then 7 else 0)])/\Bt U U'
theorem xj(M:Nat)(w h:Int)(t:ByteArray)(f:Bool)(id:Int)(U:World)(hS:rt U M w h t f){L:List Nd}(hp:b9 t=.ok L){Wd:Nat->Int}{H:Nat->Int->Int}(hZ:Sz L Wd H)(o6:1<=w/\w<=400/\1<=h/\h<=400):
 Cw 8 #[Pq M,Iq id] U fun e U'=>RoO U U' (l0 L id) e:=by
 have mY:prog.follows .mixedOrders=true:=by kernel_rfl
 have hT:=eQ (c_ hp);have kH:=hT.vl.cnt;obtain⟨c0,c1,c2,c3,fz⟩:=hS.cell;have Ol:M<U.heap.size:=(aS.1 hS).1;have LY:Hid (Cw 22 #[.string t,Iq w,Iq h,.slice none 0 0] U.drew fun e U'=>∃g al pb,e=Rw (.tuple #[Sq g L.length al,Sq pb L.length L.length,Iq 0,Iq 0])/\Hid (ip U' g L.length (ae L))/\Hid (∃P,U'.rowIs pb 82 (L.length*10) (j6 P))/\Hid (Bt U U')):=by refine(Pt t w h none 0 0 (fun _=>0) (fun _=>0) U.drew (.inl rfl) (by omega) hp hZ o6).mono ?_;rintro e U' ⟨g,al,pb,P,q1,q2,q3,q4,q5⟩;exact⟨g,al,pb,q1,q2,⟨P,q3⟩,((ag _ U).drew).trans q5⟩
 have SC:Hid (∀g al u,ip u g L.length (ae L)->Cw 19 #[Sq g L.length al,Iq id] u fun e u'=>e=Rw (Iq (l0 L id))/\u'=u):=fun g al u hu=>Aj g al id u hu kH;have HSI:=qH<|scI_is L id;have xJ:=qH hS;obtain⟨m,hm⟩:=aj L.length;obtain⟨sc,hsc⟩:=aj (l0 L id);have HIM:Hid (sc=-1\/∃i:Nat,i<m/\sc=(i:Int)):=by
  rcases HSI.out with q|⟨i,q1,q2,_⟩;·exact .inl (by omega)
  ·exact .inr ⟨i,by omega,by omega⟩
 rw[hm]at LY SC kH;rw[hsc]at SC⊢;clear hp hZ hT hS HSI hm hsc;go_enter func8,ntmps8;go_wp2_with fail;go_region_held(fun W=>W.cell? (az M 0)=some (.string t)/\W.cell? (az M 1)=some (Iq w)/\W.cell? (az M 2)=some (Iq h)/\W.cell? (az M 3)=some (.slice none 0 0)) (go_keep) (first
  |(go_at_call 22;refine am LY.out ?_;rintro e U1 ⟨g,al,pb,rfl,HN1,HR1,HB1⟩;obtain⟨m0,m1,m2,m3,_⟩:=rt.cell (W:=U1) ((HB1.block M Ol).trans xJ)));all_goals
  go_wp2_with(go_at_call 19;refine(SC _ _ _ HN1).mono ?_;rintro e u2 ⟨rfl,h2⟩;obtain rfl:=h2.symm;by_cases hlt:sc<0);·refine bodyPost_ret (results_tmp3 rfl _ _ _) rfl ?_;exact⟨_,_,by rw[if_pos hlt];rfl,HB1⟩
  ·obtain⟨i,hi,hie⟩:=HIM.out.resolve_left (by omega);subst hie;obtain⟨P,hrow⟩:=HR1.out;have q8:=aW hrow hi (t:=8) (by omega);have q9:=aW hrow hi (t:=9) (by omega);have SY:(i:Int)<(m:Int):=by omega
   clear hrow m0 m1 m2 m3 c0 c1 c2 c3;go_quiet(fail);go_wp2;refine bodyPost_ret (results_tmp3 rfl _ _ _) rfl ?_;exact⟨_,_,by rw[if_neg (by omega)];rfl,cI HB1 _⟩
