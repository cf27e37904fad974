import Derived.Test.YtaanagpadfcmlaaGreatDoorQ51
import Derived.Test.YtaanagpadfcmlaaGreatDoorQ29
import Derived.Test.YtaanagpadfcmlaaGreatDoorQ30
import Derived.Test.YtaanagpadfcmlaaGreatDoorQ48
import Derived.Test.YtaanagpadfcmlaaGreatDoorQ14
set_option linter.all false
set_option maxRecDepth 100000
set_option maxHeartbeats 16000000
namespace Go.Proofs.YtaanagpadfcmlaaGreatDoor
open Go.RowKit Go.Proofs.Tryz
theorem dH{s}{L}(h:bJ s=.ok L):fu s=.ok L:=by rw[<-vO,h];rfl
theorem vu{s}{x}(h:bJ s=.error x):fu s=.error (iq x,l8 x):=by
 rw[<-vO,h];cases x with
 |none=>rfl
 |some q=>rfl
theorem pU{s}{x}(h:bJ s=.error x):1<=iq x:=by
 cases x with
 |none=>exact ae _
 |some q=>obtain⟨c,p⟩:=q;have:=(rx h).1;show 1<=c;omega
end Go.Proofs.YtaanagpadfcmlaaGreatDoor
namespace Go.Proofs.YtaanagpadfcmlaaGreatDoor
open Go.RowKit Go.Sort Go.Proofs.Tryz
set_option linter.all false
theorem nj{fn:Func}{t u v x}(h:fn.results=#[.tmp t,.tmp u,.tmp v,.tmp x])a P w:
 (results fn a).run P w=.ok (.tuple #[a.getD t undef,a.getD u undef,a.getD v undef,a.getD x undef]) w:=by simp[results,h]
set_option maxRecDepth 100000 in
set_option maxHeartbeats 8000000 in
theorem rlay_ok(t:ByteArray)(w h:Int)(sp:Option Addr)(i z:Nat)(a off:Nat->Int)(U:World)(r:jB U sp i a off)(s:i<=4611686018427387904){L:List Nd}(hp:bJ t=.ok L){o:Nat->Int}{H:Nat->Int->Int}(N:Sz L o H)(m:1<=w/\w<=400/\1<=h/\h<=400):
 Cw 15 #[.string t,Iq w,Iq h,.slice sp i z] U λe l=>∃g cap pb P,e=Rw (.tuple #[Sq g L.length cap,Sq pb L.length L.length,Iq 0,Iq 0])/\Hid (ip l g L.length (aa L))/\Hid (l.rowIs pb 103 (L.length*10) (js P))/\Hid (cV L o H w h a off i P L.length)/\Hid (Bt U l):=by
 have A:=rN t U;have D:=fV (dH hp);have E:=D.pos;rw[dH hp]at A;have n:Hid (Cw 34 #[.string t] U λe w'=>∃g cap,e=Rw (.tuple #[Sq g L.length cap,Iq 0,Iq 0])/\Hid (ip w' g L.length (aa L))/\Hid (Bt U w')):=A.mono λe w' q=>by
  obtain⟨h1,T,Y,Z,J,C⟩:=q;obtain⟨g,cap,Q,p⟩:∃g cap,T=Sq g L.length cap/\g<w'.heap.size:=by obtain⟨xs,hx⟩:=C.nr.row;grind[cU]
  subst Q;exact⟨g,cap,J,C.nds p,h1⟩
 have I:Hid (∀g cap u,ip u g L.length (aa L)->Bt U u->Cw 35 #[Sq g L.length cap,Iq w,Iq h,.slice sp i z] u λe l=>∃pb,e=Rw (Sq pb L.length L.length)/\Hid (AN u l L o H w h a off i pb)):=λg cap u hu O=>yD D N g cap sp i z a off w h u hu (r.below O) s ⟨m.1,m.2.1⟩ m.2.2;obtain⟨s1,s2,s3,s4⟩:=m;have t1:¬w<1:=dg;have t2:¬400<w:=dg;have t3:¬h<1:=dg;have t4:¬400<h:=dg;go_enter func15,ntmps15;go_wp2_with(first|(go_at_call 34;refine n.mono ?_;rintro e U1 ⟨g,cap,rfl,j,d⟩)|(go_at_call 35;refine(I _ _ _ j d).mono ?_;rintro e U2 ⟨pb,rfl,G⟩));all_goals refine bodyPost_ret (nj rfl _ _ _) rfl ?_;obtain⟨F,P,V,X⟩:=G.out;exact⟨g,cap,pb,P,rfl,j.below F,V,X,d.trans (F.mono d.size)⟩
set_option maxRecDepth 100000 in
set_option maxHeartbeats 8000000 in
/--A text that is no tree,or a OX that is none. -/
theorem yz(t:ByteArray)(w h:Int)(sp:Option Addr)(D C:Nat)(U:World)(a b c d:Int)(m:Cw 34 #[.string t] U λe w'=>∃p n k,e=Rw (.tuple #[.slice p n k,Iq a,Iq b])/\Hid (Bt U w'))(l:((a !=0)=true/\a=c/\b=d)\/((a !=0)=false/\c=6/\d=0/\¬(1<=w/\w<=400/\1<=h/\h<=400))):
 Cw 15 #[.string t,Iq w,Iq h,.slice sp D C] U λe r=>e=Rw (.tuple #[.slice none 0 0,.slice none 0 0,Iq c,Iq d])/\Bt U r:=by
 have o:=qH m;have l:((a !=0)=true/\a=c/\b=d)\/((a !=0)=false/\c=6/\d=0/\w<1)\/((a !=0)=false/\c=6/\d=0/\¬w<1/\400<w)\/((a !=0)=false/\c=6/\d=0/\¬w<1/\¬400<w/\h<1)\/((a !=0)=false/\c=6/\d=0/\¬w<1/\¬400<w/\¬h<1/\400<h):=by
  rcases l with q|⟨s,z,A,F⟩;·exact .inl q
  ·simp only[s,z,A,true_and];right;omega
 clear m;rcases l with⟨i,rfl,rfl⟩|⟨i,rfl,rfl,t1⟩|⟨i,rfl,rfl,t1,t2⟩|⟨i,rfl,rfl,t1,t2,t3⟩|⟨i,rfl,rfl,t1,t2,t3,t4⟩;all_goals go_enter func15,ntmps15;go_wp2_with(go_at_call 34;refine o.mono ?_;rintro e E ⟨p,n,k,rfl,j⟩);all_goals refine bodyPost_ret (nj rfl _ _ _) rfl ?_;exact⟨rfl,j⟩
end Go.Proofs.YtaanagpadfcmlaaGreatDoor
namespace Go.Proofs.YtaanagpadfcmlaaGreatDoor
open Go.RowKit Go.Sort
set_option linter.all false
theorem vM t:∃a H,∀L,bJ t=.ok L->Sz L a H:=by
 cases hp:bJ t with
 |error x=>simp_all
 |ok L=>obtain⟨a,H,hS⟩:=QJ (fV (dH hp)).nest;exact⟨a,H,λd q=>rd⟩
end Go.Proofs.YtaanagpadfcmlaaGreatDoor
namespace Go.Proofs.YtaanagpadfcmlaaGreatDoor
open Go.RowKit Go.Sort Go.Proofs.Tryz
set_option linter.all false
/--Eo N4 uM. -/
def Pv(U U':World)(w h:Int)(dM off:Nat->Int)(sn:Nat)(r:Except (Option (Nat×Nat)) (List Nd))(e:Ending):Prop:=Bt U U'/\match r with
 |.error x=>e=Rw (.tuple #[.slice none 0 0,Iq (iq x:Int),Iq (l8 x:Int)])
 |.ok L=>(¬(1<=w/\w<=400/\1<=h/\h<=400)/\e=Rw (.tuple #[.slice none 0 0,Iq 6,Iq 0]))\/((1<=w/\w<=400/\1<=h/\h<=400)/\∃pb P Wd H,Sz L Wd H/\e=Rw (.tuple #[Sq pb L.length L.length,Iq 0,Iq 0])/\U'.rowIs pb 59 (L.length*10) (js P)/\cV L Wd H w h dM off sn P L.length/\U.heap.size<=pb)
/--Eo N4 uM,where Wd and H are what NL TA. -/
def RY(U U':World)(w h:Int)(dM off:Nat->Int)(sn:Nat)(Wd:Nat->Int)(H:Nat->Int->Int)(r:Except (Option (Nat×Nat)) (List Nd))(e:Ending):Prop:=Bt U U'/\match r with
 |.error x=>e=Rw (.tuple #[.slice none 0 0,Iq (iq x:Int),Iq (l8 x:Int)])
 |.ok L=>(¬(1<=w/\w<=400/\1<=h/\h<=400)/\e=Rw (.tuple #[.slice none 0 0,Iq 6,Iq 0]))\/((1<=w/\w<=400/\1<=h/\h<=400)/\∃pb P,e=Rw (.tuple #[Sq pb L.length L.length,Iq 0,Iq 0])/\U'.rowIs pb 59 (L.length*10) (js P)/\cV L Wd H w h dM off sn P L.length/\U.heap.size<=pb)
set_option maxRecDepth 100000 in
set_option maxHeartbeats 8000000 in
theorem layout_at(t:ByteArray)(w h:Int)(sp:Option Addr)(s sc:Nat)(m off:Nat->Int)(E:Nat->Addr)(U:World)(hG:vY U E)(hA:gM U E)(hE:vX U)(ht:bN U)(T:jB U sp s m off)(zc:s<=4611686018427387904)(ze:∀a:Addr,sp=some a->a.block<U.heap.size)(F:Nat->Int)(H:Nat->Int->Int)(J:∀L,bJ t=.ok L->Sz L F H):
 Cw 9 #[.string t,Iq w,Iq h,.slice sp s sc] U λe U'=>RY U U' w h m off s F H (bJ t) e:=by
 have za:Hid (∀L,bJ t=.ok L->Sz L F H):=J;clear J;have TP:Hid (Cw 10 #[.string t] U λe w'=>Ng U w' e (bJ t)):=sa t E U hG hA hE;have p:Hid (∀n u,Cw 19 #[Iq n] u λe w'=>e=Rw (.bool (decide (1<=n/\n<=400)))/\w'=u):=Bm;have G:Hid (bN U/\jB U sp s m off):=⟨ht,T⟩;clear hG hA hE ht T;go_enter func9,ntmps9;go_wp2_with fail;refine TP.mono ?_;rintro e C ⟨i,V⟩;have d:Hid (Bt U C):=i;clear i TP;cases hp:bJ t with
 |error x=>
  rw[hp]at V;subst V;have hx:(iq x:Int)≠0:=by have:=pU hp;omega
  have zg:((iq x:Int)!=0)=true:=by simpa using hx
  have j:Hid (bJ t=.error x):=hp;obtain⟨c,hc⟩:∃z:Int,(iq x:Int)=z:=⟨_,rfl⟩;have Y:Hid ((iq x:Int)=c):=hc;rw[hc]at hx zg⊢;clear hp hc;go_wp2;refine bodyPost_ret (results_tmp3 rfl _ _ _) rfl ?_;rw[j.out];exact⟨d,by show _=_;rw[Y.out];rfl⟩
 |ok L=>
  rw[hp]at V;obtain⟨nv,KV,rfl,hn⟩:=V;have hT:dp t L:=fV (dH hp);have hS:=za L hp;have zh:=hT.pos;obtain⟨g,cap,rfl⟩:∃g cap,nv=Sq g L.length cap:=by obtain⟨xs,hx⟩:=hn.nr.row;grind[cU]
  have HN:Hid (PN C U.heap.size (Sq g L.length cap) L KV):=hn;have j:Hid (bJ t=.ok L):=hp;clear hn hp;by_cases X:1<=w/\w<=400
  ·by_cases hh:1<=h/\h<=400
   ·have I:Hid (∀u,Cw 19 #[Iq w] u λe w'=>e=Rw (.bool true)/\w'=u):=λu=>by have:=p w u;grind
    have S2:Hid (∀u,Cw 19 #[Iq h] u λe w'=>e=Rw (.bool true)/\w'=u):=λu=>by have:=p h u;grind
    have NM:Hid (Cw 20 #[Sq g L.length cap] C λe D=>∃o r A,e=Rw (Pq o)/\Hid (Bt C D/\Hs D o r g cap A L KV F H 0/\C.heap.size<=r)):=by refine(rh g cap hT hS C _ HN (G.1.below d)).mono ?_;rintro e D ⟨o,r,A,h1,h2,h3,h4⟩;exact⟨o,r,A,h1,h2,h3,h4⟩
    have PL:Hid (∀u o r A,Bt C u->Hs u o r g cap A L KV F H 0->Cw 21 #[Pq o,Iq w,Iq h,.slice sp s sc] u λe D=>∃pb,e=Rw (Sq pb L.length L.length)/\Hid (∃P,D.rowIs pb 59 (L.length*10) (js P)/\cV L F H w h m off s P L.length/\u.grownBy D (some r)/\u.heap.size<=pb)):=λu o r A hu zb=>by have O:=d.trans (hu.mono d.size);refine(BW o r g cap A hT hS w h sp s sc m off u zb X hh (G.2.below O) zc (λa e=>zz007 (ze a e) O.size)).mono ?_;rintro e D ⟨pb,P,h1,h2,h3,h4,l⟩;exact⟨pb,h1,P,h2,h3,h4,l⟩
    clear p G;go_wp2_with(first|(go_at_call 19;(with_reducible refine ag (I.out _) ?_);rintro e u5 ⟨rfl,l⟩;obtain rfl:=l.symm)|(go_at_call 19;(with_reducible refine ag (S2.out _) ?_);rintro e u5 ⟨rfl,l⟩;obtain rfl:=l.symm)|(go_at_call 20;refine ag NM.out ?_;rintro e u6 ⟨o,r,A,rfl,Z⟩)|(go_at_call 21;refine ag (PL.out _ _ _ _ Z.out.1 Z.out.2.1) ?_;rintro e u7 ⟨pb,rfl,HZ⟩));all_goals refine bodyPost_ret (results_tmp3 rfl _ _ _) rfl ?_;rw[j.out];obtain⟨P,z1,z2,z3,z4⟩:=HZ.out;obtain⟨q1,q2,q3⟩:=Z.out;have i:=d.out;have N:=i.trans (q1.mono i.size);have zi:=i.size;have Q:=N.size;refine⟨N.grown z3 Q (λk hk=>rd),?_⟩;exact .inr ⟨⟨X.1,X.2,hh.1,hh.2⟩,pb,P,rfl,z1,z2,dg⟩
   ·have I:Hid (∀u,Cw 19 #[Iq w] u λe w'=>e=Rw (.bool true)/\w'=u):=λu=>by have:=p w u;grind
    have S2:Hid (∀u,Cw 19 #[Iq h] u λe w'=>e=Rw (.bool false)/\w'=u):=λu=>by have:=p h u;grind
    clear p G HN;go_wp2_with(first|(go_at_call 19;(with_reducible refine ag (I.out _) ?_);rintro e u5 ⟨rfl,l⟩;obtain rfl:=l.symm)|(go_at_call 19;(with_reducible refine ag (S2.out _) ?_);rintro e u5 ⟨rfl,l⟩;obtain rfl:=l.symm));all_goals refine bodyPost_ret (results_tmp3 rfl _ _ _) rfl ?_;rw[j.out];exact⟨d,.inl ⟨λq=>hh ⟨q.2.2.1,q.2.2.2⟩,rfl⟩⟩
  ·have I:Hid (∀u,Cw 19 #[Iq w] u λe w'=>e=Rw (.bool false)/\w'=u):=λu=>by have:=p w u;grind
   clear p G HN;go_wp2_with(go_at_call 19;refine ag (I _) ?_;rintro e u5 ⟨rfl,l⟩;obtain rfl:=l.symm);all_goals refine bodyPost_ret (results_tmp3 rfl _ _ _) rfl ?_;rw[j.out];exact⟨d,.inl ⟨λq=>X ⟨q.1,q.2.1⟩,rfl⟩⟩
theorem Oy t w h sp i o d off E U(hG:vY U E)(r:gM U E)(s:vX U)(A:bN U)(j:jB U sp i d off)(l:i<=4611686018427387904)(m:∀a,sp=some a->a.block<U.heap.size):
 Cw 9 #[.string t,Iq w,Iq h,.slice sp i o] U λe n=>Pv U n w h d off i (bJ t) e:=by obtain⟨p,H,hS⟩:=vM t;refine(layout_at t w h sp i o d off E U hG r s A j l m p H hS).mono ?_;rintro e n ⟨z,q⟩;refine⟨z,?_⟩;grind
end Go.Proofs.YtaanagpadfcmlaaGreatDoor
namespace Go.Proofs.YtaanagpadfcmlaaGreatDoor
open Go.RowKit Go.Sort Go.Proofs.Tryz
set_option linter.all false
/--P1: NL Mg one behind the other. -/
def frK(W H:Nat)(L:List Nd)(P:Nat->Nat->Int):Nat->Nat->Nat->Ce
 |0=>λ_ _=>bk 0 0 0
 |k+1=>pnF W H (eZ L k).1 (eZ L k).2.1 (eZ L k).2.2 (P k 4) (P k 5) (P k 6) (P k 7) (aa L k).kind (ap (aa L k) 6) (ap (aa L k) 7) (ap (aa L k) 8) (ap (aa L k) 10) (aa L k).text (P k 0) (P k 1) (P k 2) (P k 3) (frK W H L P k)
theorem xc{W H}{Q:(Nat->Nat->Ce)->Prop}{L}{P}(a:Q (λ_ _=>bk 0 0 0))(d:∀c x y w hh f g bd cx cy ca cb,Q c->Q (ir W H c x y w hh f g bd cx cy ca cb))(e:∀f g bd cx cy ca cb x y s c,Q c->Q (wrL W H f g bd cx cy ca cb x y s c)):∀k,Q (frK W H L P k)
 |0=>a
 |k+1=>Jo (λc hc=>d c _ _ _ _ _ _ _ _ _ _ _ hc) (λx y s c hc=>e _ _ _ _ _ _ _ x y s c hc) (xc a d e k)
theorem PAll.blank W H:PAll W H (λ_ _=>bk 0 0 0):=λy hy=>⟨λi hi=>.inl rfl,λi hi h=>(by cases h),λi hi h=>(by cases h)⟩
theorem PAll.frK{W H:Nat}(hW:1<=W/\W<=400)(hH:1<=H/\H<=400)(L:List Nd)(P:Nat->Nat->Int)(k:Nat):PAll W H (frK W H L P k):=
 xc (Q:=PAll W H) (PAll.blank W H) (λc _ _ _ _ _ _ _ _ _ _ _ hc=>hc.filX hW hH _ _ _ _ _ _ _ _ _ _ _) (λ_ _ _ _ _ _ _ _ _ _ c hc=>hc.wrL hW hH _ _ _ _ _ _ _ _ _ _) k
/--d Frame a. -/
def Pp(U U':World)(w h:Int)(dM off:Nat->Int)(sn:Nat)(r:Except (Option (Nat×Nat)) (List Nd))(e:Ending):Prop:=Bt U U'/\match r with
 |.error x=>e=Rw (.tuple #[.slice none 0 0,Iq (iq x:Int),Iq (l8 x:Int)])
 |.ok L=>(¬(1<=w/\w<=400/\1<=h/\h<=400)/\e=Rw (.tuple #[.slice none 0 0,Iq 6,Iq 0]))\/∃W H:Nat,w=W/\h=H/\(1<=W/\W<=400)/\(1<=H/\H<=400)/\∃N cap P Wd Hf,Sz L Wd Hf/\cV L Wd Hf w h dM off sn P L.length/\e=Rw (.tuple #[Sq N (W*H) cap,Iq 0,Iq 0])/\Cv 73 U' N W H (frK W H L P L.length)/\U.heap.size<=N
/--Eo Frame uM,where Wd and Hf are what NL TA. -/
def Po(U U':World)(w h:Int)(dM off:Nat->Int)(sn:Nat)(Wd:Nat->Int)(Hf:Nat->Int->Int)(r:Except (Option (Nat×Nat)) (List Nd))(e:Ending):Prop:=Bt U U'/\match r with
 |.error x=>e=Rw (.tuple #[.slice none 0 0,Iq (iq x:Int),Iq (l8 x:Int)])
 |.ok L=>(¬(1<=w/\w<=400/\1<=h/\h<=400)/\e=Rw (.tuple #[.slice none 0 0,Iq 6,Iq 0]))\/∃W H:Nat,w=W/\h=H/\(1<=W/\W<=400)/\(1<=H/\H<=400)/\∃N cap P,cV L Wd Hf w h dM off sn P L.length/\e=Rw (.tuple #[Sq N (W*H) cap,Iq 0,Iq 0])/\Cv 73 U' N W H (frK W H L P L.length)/\U.heap.size<=N/\W*H<=cap/\cap<=9223372036854775807
/--A Uq in memory. -/
def R8(u:World)(B K:Nat)(f0 f1 f2 c0 c1 c2 c3:Int):Prop:=u.heap[B]?=some (.cells #[Pq K,Iq f0,Iq f1,Iq f2,Iq c0,Iq c1,Iq c2,Iq c3] 54 (0,0))
theorem bp.drewn{M}{W a}(h:bp M W a):bp M W a.drew:=⟨h.os,h.tape,h.output,h.size,h.block⟩
section
variable{u:World} {B K:Nat} {f0 f1 f2 c0 c1 c2 c3:Int}
theorem R8.s1(h:R8 u B K f0 f1 f2 c0 c1 c2 c3)v:R8 (u.setCell (aj B 1) (.int .i64 v)) B K v f1 f2 c0 c1 c2 c3:=heap_setCell_same _ B 1 _ _ _ h
theorem R8.s2(h:R8 u B K f0 f1 f2 c0 c1 c2 c3)v:R8 (u.setCell (aj B 2) (.int .i64 v)) B K f0 v f2 c0 c1 c2 c3:=heap_setCell_same _ B 2 _ _ _ h
theorem R8.s3(h:R8 u B K f0 f1 f2 c0 c1 c2 c3)v:R8 (u.setCell (aj B 3) (.int .i64 v)) B K f0 f1 v c0 c1 c2 c3:=heap_setCell_same _ B 3 _ _ _ h
theorem R8.s4(h:R8 u B K f0 f1 f2 c0 c1 c2 c3)v:R8 (u.setCell (aj B 4) (.int .i64 v)) B K f0 f1 f2 v c1 c2 c3:=heap_setCell_same _ B 4 _ _ _ h
theorem R8.s5(h:R8 u B K f0 f1 f2 c0 c1 c2 c3)v:R8 (u.setCell (aj B 5) (.int .i64 v)) B K f0 f1 f2 c0 v c2 c3:=heap_setCell_same _ B 5 _ _ _ h
theorem R8.s6(h:R8 u B K f0 f1 f2 c0 c1 c2 c3)v:R8 (u.setCell (aj B 6) (.int .i64 v)) B K f0 f1 f2 c0 c1 v c3:=heap_setCell_same _ B 6 _ _ _ h
theorem R8.s7(h:R8 u B K f0 f1 f2 c0 c1 c2 c3)v:R8 (u.setCell (aj B 7) (.int .i64 v)) B K f0 f1 f2 c0 c1 c2 v:=heap_setCell_same _ B 7 _ _ _ h
theorem R8.dr(h:R8 u B K f0 f1 f2 c0 c1 c2 c3):R8 u.drew B K f0 f1 f2 c0 c1 c2 c3:=h
theorem R8.seven(h:R8 u B K f0 f1 f2 c0 c1 c2 c3)a d e i j l m:R8 (((((((u.setCell (aj B 1) (.int .i64 a)).setCell (aj B 2) (.int .i64 d)).setCell (aj B 3) (.int .i64 e)).setCell (aj B 4) (.int .i64 i)).setCell (aj B 5) (.int .i64 j)).setCell (aj B 6) (.int .i64 l)).setCell (aj B 7) (.int .i64 m)).drew B K a d e i j l m:=
 (((((((h.s1 a).s2 d).s3 e).s4 i).s5 j).s6 l).s7 m).dr
end
set_option maxRecDepth 100000 in
set_option maxHeartbeats 8000000 in
theorem ua(t:ByteArray)(w h:Int)(sp:Option Addr)(sn sc:Nat)(zr off:Nat->Int)(E:Nat->Addr)(U:World)(hG:vY U E)(hA:gM U E)(hE:vX U)(ht:bN U)(hsc:jB U sp sn zr off)(Qs:sn<=4611686018427387904)(hsp:∀a:Addr,sp=some a->a.block<U.heap.size)(Wd:Nat->Int)(Hf:Nat->Int->Int)(zR:∀L,bJ t=.ok L->Sz L Wd Hf):
 Cw 5 #[.string t,Iq w,Iq h,.slice sp sn sc] U λe U'=>Po U U' w h zr off sn Wd Hf (bJ t) e:=by
 have LY:=qH<|layout_at t w h sp sn sc zr off E U hG hA hE ht hsc Qs hsp Wd Hf zR;clear zR;cases hp:bJ t with
 |error x=>
  rw[hp]at LY;have hx:(iq x:Int)≠0:=by have:=pU hp;omega
  obtain⟨c,hc⟩:∃z:Int,(iq x:Int)=z:=⟨_,rfl⟩;obtain⟨d,hd⟩:∃z:Int,(l8 x:Int)=z:=⟨_,rfl⟩;have Y:Hid (Cw 9 #[.string t,Iq w,Iq h,.slice sp sn sc] U λe J=>e=Rw (.tuple #[.slice none 0 0,Iq c,Iq d])/\Hid (Bt U J)):=LY.mono λe w' q=>⟨by have:=q.2;grind,q.1⟩;have _R:(c==0)=false:=by rw[<-hc];simpa using hx
  have HC:=qH hc;have HD:=qH hd;clear LY hc hd hx;go_enter func5,ntmps5;go_wp2_with(go_at_call 9;refine Y.mono ?_;rintro e U1 ⟨rfl,O⟩);refine bodyPost_ret (results_tmp3 rfl _ _ _) rfl ?_;refine⟨O,?_⟩;dsimp only;rw[HC.out,HD.out];rfl
 |ok L=>
  rw[hp]at LY;by_cases hr:1<=w/\w<=400/\1<=h/\h<=400;case neg=>
   have Y:Hid (Cw 9 #[.string t,Iq w,Iq h,.slice sp sn sc] U λe J=>e=Rw (.tuple #[.slice none 0 0,Iq 6,Iq 0])/\Hid (Bt U J)):=LY.mono λe w' q=>by
    obtain⟨hb,q⟩:=q;rcases q with⟨_,q⟩|⟨q,_⟩;·exact⟨q,hb⟩
    ·exact absurd q hr
   clear LY;go_enter func5,ntmps5;go_wp2_with(go_at_call 9;refine Y.mono ?_;rintro e U1 ⟨rfl,O⟩);refine bodyPost_ret (results_tmp3 rfl _ _ _) rfl ?_;exact⟨O,.inl ⟨hr,rfl⟩⟩
  have hT:=fV (dH hp);have zS:=hT.vl.cnt;have Tc:=hT.pos;obtain⟨W,rfl⟩:∃W:Nat,w=(W:Int):=⟨w.toNat,dg⟩;obtain⟨H,rfl⟩:∃H:Nat,h=(H:Int):=⟨h.toNat,dg⟩;have hW:1<=W/\W<=400:=dg;have hH:1<=H/\H<=400:=dg;have HT:=qH hT;have Y:Hid (Cw 9 #[.string t,Iq W,Iq H,.slice sp sn sc] U λe J=>∃pb,e=Rw (.tuple #[Sq pb L.length L.length,Iq 0,Iq 0])/\Hid (Bt U J)/\∃P,Hid (cV L Wd Hf W H zr off sn P L.length)/\Hid (J.rowIs pb 59 (L.length*10) (js P))):=LY.mono λe J q=>by
   obtain⟨hb,q⟩:=q;rcases q with⟨q,_⟩|⟨_,pb,P,q2,q3,q4,_⟩;·exact absurd hr q
   ·exact⟨pb,q2,hb,P,q4,q3⟩
  have zP:Hid (∀u,Bt U u->Cw 10 #[.string t] u λe w'=>∃g cap KV,e=Rw (.tuple #[Sq g L.length cap,Iq 0,Iq 0])/\Hid (KX w' w'.heap.size g L KV)/\Hid (u.heap.size<=g)/\Hid (Bt u w')):=λu hu=>by
   have:=sa t E u (hG.cells hu) (hA.below hu) (hE.below hu);rw[hp]at this;refine this.mono λe w' q=>?_;obtain⟨hb,nv,KV,rfl,hn⟩:=q;obtain⟨g,cap,rfl,YR⟩:∃g cap,nv=Sq g L.length cap/\u.heap.size<=g:=by obtain⟨xs,hx⟩:=hn.nr.row;grind[cU]
   exact⟨g,cap,KV,rfl,hn.ndv (ae _),YR,hb⟩
  have ST:Hid (∀u r g cap KV,KX u r g L KV->Cw 12 #[Sq g L.length cap] u λe J=>∃sb,e=Rw (Sq sb L.length L.length)/\Hid (dS J sb 0 L.length (λj=>(eZ L j).1) (λj=>(eZ L j).2.1) (λj=>(eZ L j).2.2))/\Hid (u.heap.size<=sb)/\Hid (Bt u J)):=λu r g cap KV hv=>vL HT.gr.upl zS u r g cap hv;have NW:Hid (∀u,Cw 11 #[Iq W,Iq H] u λe J=>∃K M,e=Rw (.tuple #[Pq K,Iq 0])/\Hid (CS 91 73 J K M (W*H) W H (λ_ _=>bk 0 0 0))/\Hid (u.heap.size<=K/\u.heap.size<=M)/\Hid (Bt u J)):=λu=>(OH W H u hW hH).mono λe J ⟨K,M,h1,h2,h3,h4,h5⟩=>⟨K,M,h1,h2,⟨h3,h4⟩,h5⟩;have WT:=qH ht;clear LY hp hG hA hE hsc hsp ht hT;go_enter func5,ntmps5;go_wp2_with(first
   |(go_at_call 9;refine Y.mono ?_;rintro e u1 ⟨pb,rfl,O,P,zx,zn⟩)
   |(go_at_call 10;refine ag (zP _ O) ?_;rintro e u2 ⟨g,cap,KV,rfl,zv,Wj,zh⟩)
   |(go_at_call 11;refine ag (NW _) ?_;rintro e u3 ⟨K,M,rfl,D,zl,zb⟩;have zm:=qH<|zv.grown (ac zb))
   |(go_at_call 12;refine ag (ST _ _ _ _ _ zm) ?_;rintro e u4 ⟨sb,rfl,zz,zL,HB4⟩)
   |fail);obtain⟨B,hB⟩:=ad u4.heap.size;obtain⟨u5,zg⟩:=ad (u4.alloc (.cells #[Pq K,Iq 0,Iq 0,Iq 0,Iq 0,Iq 0,Iq 0,Iq 0] 54));have QM:Hid (R8 u5 B K 0 0 0 0 0 0 0):=by rw[<-zg,<-hB];exact heap_alloc_new _ _
  have zk:Hid (Gr u4 u5):=by rw[<-zg];exact(Gr.refl u4).alloc _
  have Xu:=zh.size;have _x:=zb.size;have zA:=HB4.size;have Xt:=O.size;have T:=qH<|O.trans (zh.mono Xt);have zN:=qH<|T.trans (zb.mono dg);have zO:=qH<|zN.trans (HB4.mono dg);have WU:=qH<|zO.trans (zk.below.mono dg);have zB:K<B:=by rw[<-hB];exact zz007 D.klt zA
  have QS:M<B:=by rw[<-hB];exact zz007 D.cv.lt zA
  have XC:U.heap.size<=B:=by rw[<-hB];omega
  have zC:U.heap.size<=M:=by have:=zl.out.2;omega
  have za:=qH<|HB4.trans (zk.below.mono zA);have G:Hid (CS 91 73 u5 K M (W*H) W H (λ_ _=>bk 0 0 0)):=⟨(za.block K D.klt).trans D.kb,D.cv.keep (za.block M D.cv.lt),D.ne,D.hc⟩;have zw:=qH<|zm.grown (ac za);have Pg:g<B:=by rw[<-hB];have:=zm.gl;omega
  have SG:g≠M:=by have:=zv.gl;have:=zl.out.2;omega
  have WY:=qH<|zz.below zk.below;have YM:sb<B:=by rw[<-hB];exact zz.1
  have YK:sb≠M:=by have:=zL.out;have:=D.cv.lt;omega
  have Pt:=qH<|rowIs_below zn ((zh.trans (zb.mono Xu)).trans (za.mono dg));have Tb:pb<B:=by rw[<-hB];have:=zn.lt;omega
  have zZ:pb≠M:=by have:=zn.lt;have:=zl.out.2;omega
  have H5:Hid (u5.heap.size=B+1):=by show _=_;rw[<-zg,au,hB]
  rw[zg,hB];obtain⟨n,hn⟩:=ad L.length;have zI:=qH hn;have UZ:n<=100:=dg;rw[hn];clear hn;clear O zh zb HB4 zv zm D zl zz zL zn zk T zN zO za zg hB Y zP ST NW Wj;go_loopw[54] (λiv wr=>∃k:Nat,k<=n/\iv=Iq (k:Int)/\Hid (Cv 73 wr M W H (frK W H L P k))/\Hid (Bt U wr)/\Hid (∀b,b<B->b≠M->wr.heap[b]?=u5.heap[b]?)/\Hid (B<wr.heap.size)/\∃f0 f1 f2 c0 c1 c2 c3,Hid (R8 wr B K f0 f1 f2 c0 c1 c2 c3)) (λiv _=>n-(intOf iv).toNat);case atStart=>exact⟨0,aR _,rfl,G.cv,WU,λb _ _=>rfl,by show _<_;rw[H5.out];omega,_,_,_,_,_,_,_,QM⟩
  case round=>
   obtain⟨k,hk,rfl,HV,HU,V,zi,f0,f1,f2,c0,c1,c2,c3,HR⟩:=hrel;by_cases Ql:k<n
   ·have zX:(k:Int)<(n:Int):=dg
    have Q:k<L.length:=by have:=zI.out;omega
    have i:=qH<|λt v hv=>(bf (a:=(aj g (k*16+t))) (V g Pg SG)).trans (zw.nd k Q t v hv);rw[lh (zw.len k Q)]at i;obtain⟨pk,ck,zV,_⟩:=zw.kid k Q;have zM:Hid (wr.cell? (aj sb (k*3))=some (Iq (eZ L k).1)/\wr.cell? (aj sb (k*3+1))=some (Iq (eZ L k).2.1)/\wr.cell? (aj sb (k*3+2))=some (Iq (eZ L k).2.2)):=by have q:=WY.2 k Q;rw[aZ]at q;have e:=λo=>bf (a:=(aj sb o)) (V sb YM YK);exact⟨(e _).trans q.1,(e _).trans q.2.1,(e _).trans q.2.2⟩
    have I:=qH<|λt ht=>(bf (a:=(aj pb (k*10+t))) (V pb Tb zZ)).trans (aS Pt Q ht);have ze:=zx.bd k Q;have Z:=zx.onScr HT dg dg (k+1) k dg Q;have Rb:=HT.vl.tl k Q;have Ly:=HT.sz;have l:Hid (frK W H L P (k+1)=pnF W H (eZ L k).1 (eZ L k).2.1 (eZ L k).2.2 (P k 4) (P k 5) (P k 6) (P k 7) (aa L k).kind (ap (aa L k) 6) (ap (aa L k) 7) (ap (aa L k) 8) (ap (aa L k) 10) (aa L k).text (P k 0) (P k 1) (P k 2) (P k 3) (frK W H L P k)):=rfl;rw[zV]at i;have y0:wr.cell? (aj pb (k*10))=some (Iq (P k 0)):=I 0 dg;have y1:=I 1 dg;have y2:=I 2 dg;have y3:=I 3 dg;have y4:=I 4 dg;have y5:=I 5 dg;have y6:=I 6 dg;have y7:=I 7 dg;obtain⟨zE,zF,zG⟩:=zM.out;unfold v_ at Z;generalize P k 0=p0 at y0 l ze;generalize P k 1=p1 at y1 l ze;generalize P k 2=p2 at y2 l ze;generalize P k 3=p3 at y3 l ze;generalize P k 4=p4 at y4 l Z;generalize P k 5=p5 at y5 l Z;generalize P k 6=p6 at y6 l Z;generalize P k 7=p7 at y7 l Z;generalize(eZ L k).1=s0 at zE l;generalize(eZ L k).2.1=s1 at zF l;generalize(eZ L k).2.2=s2 at zG l;generalize((aa L k).kind:Int)=kd at i l;generalize ap (aa L k) 0=a0 at i;generalize ap (aa L k) 1=a1 at i;generalize ap (aa L k) 2=a2 at i;generalize ap (aa L k) 3=a3 at i;generalize ap (aa L k) 4=a4 at i;generalize ap (aa L k) 5=a5 at i;generalize ap (aa L k) 6=a6 at i l;generalize ap (aa L k) 7=a7 at i l;generalize ap (aa L k) 8=a8 at i l;generalize ap (aa L k) 9=a9 at i;generalize ap (aa L k) 10=b0 at i l;generalize ap (aa L k) 11=b1 at i;generalize(aa L k).up=up at i;generalize(aa L k).kids.length=kl at i;obtain⟨tx,zq⟩:∃z:ByteArray,⟨(aa L k).text.toArray⟩=z:=⟨_,rfl⟩;have Nw:tx.data.toList=(aa L k).text:=by rw[<-zq]
    have Qt:tx.size<=100000:=by rw[<-zq];show(aa L k).text.toArray.size<=_;rw[jh];omega
    rw[zq]at i;rw[<-Nw]at l;have q0:wr.cell? (aj g (k*16))=some (Iq kd):=i 0 _ rfl;have q1:=i 1 _ rfl;have q2:=i 2 _ rfl;have q3:=i 3 _ rfl;have q4:=i 4 _ rfl;have q5:=i 5 _ rfl;have q6:=i 6 _ rfl;have q7:=i 7 _ rfl;have q8:=i 8 _ rfl;have q9:=i 9 _ rfl;have VA:=i 10 _ rfl;have VB:=i 11 _ rfl;have VC:=i 12 _ rfl;have VE:=i 13 _ rfl;have VF:=i 14 _ rfl;have VG:=i 15 _ rfl;obtain⟨A,hA⟩:=ad wr.heap.size;obtain⟨s,zD⟩:=ad (wr.alloc (.cells #[Iq kd,Iq a0,Iq a1,Iq a2,Iq a3,Iq a4,Iq a5,Iq a6,Iq a7,Iq a8,Iq a9,Iq b0,Iq b1,.string tx,.slice pk kl ck,Iq up] 57));have m:Hid (Gr wr s):=by rw[<-zD];exact(Gr.refl wr).alloc _
    have zY:s.heap[A]?=some (.cells #[Iq kd,Iq a0,Iq a1,Iq a2,Iq a3,Iq a4,Iq a5,Iq a6,Iq a7,Iq a8,Iq a9,Iq b0,Iq b1,.string tx,.slice pk kl ck,Iq up] 57 (0,0)):=by rw[<-zD,<-hA];exact heap_alloc_new _ _
    have C:R8 s B K f0 f1 f2 c0 c1 c2 c3:=(m.block zi).trans HR;have _F:B<A:=by rw[<-hA];exact zi
    have x0:=an m.below y0;have x1:=an m.below y1;have x2:=an m.below y2;have x3:=an m.below y3;have x4:=an m.below y4;have x5:=an m.below y5;have x6:=an m.below y6;have x7:=an m.below y7;have v0:=an m.below zE;have v1:=an m.below zF;have v2:=an m.below zG;have r0:s.cell? (aj B 0)=some (Pq K):=by rw[Lib.cell_of_heap (show s.heap[B]?=_ from C)];rfl
    have r1:s.cell? (aj B 1)=some (Iq f0):=by rw[Lib.cell_of_heap (show s.heap[B]?=_ from C)];rfl
    have r2:s.cell? (aj B 2)=some (Iq f1):=by rw[Lib.cell_of_heap (show s.heap[B]?=_ from C)];rfl
    have r3:s.cell? (aj B 3)=some (Iq f2):=by rw[Lib.cell_of_heap (show s.heap[B]?=_ from C)];rfl
    have r4:s.cell? (aj B 4)=some (Iq c0):=by rw[Lib.cell_of_heap (show s.heap[B]?=_ from C)];rfl
    have r5:s.cell? (aj B 5)=some (Iq c1):=by rw[Lib.cell_of_heap (show s.heap[B]?=_ from C)];rfl
    have r6:s.cell? (aj B 6)=some (Iq c2):=by rw[Lib.cell_of_heap (show s.heap[B]?=_ from C)];rfl
    have r7:s.cell? (aj B 7)=some (Iq c3):=by rw[Lib.cell_of_heap (show s.heap[B]?=_ from C)];rfl
    have UE:∀j,s.frozen? (aj B j)=false:=λj=>frozen_of_row _ _ _ _ _ C;have zJ:=qH C;have zu:=qH zY;clear i zV zq Nw zM I HR C zY Rb;go_wp2_with fail;clear zD hA q0 q1 q2 q3 q4 q5 q6 q7 q8 q9 VA VB VC VE VF VG y0 y1 y2 y3 y4 y5 y6 y7 zE zF zG;go_region;obtain⟨W2,zo⟩:=ad (((((((s.setCell (aj B 1) (.int .i64 s0)).setCell (aj B 2) (.int .i64 s1)).setCell (aj B 3) (.int .i64 s2)).setCell (aj B 4) (.int .i64 p4)).setCell (aj B 5) (.int .i64 p5)).setCell (aj B 6) (.int .i64 p6)).setCell (aj B 7) (.int .i64 p7)).drew;have zK:Hid (R8 W2 B K s0 s1 s2 p4 p5 p6 p7):=by rw[<-zo];exact zJ.seven s0 s1 s2 p4 p5 p6 p7
    have HC2:Hid (bp B s W2):=by rw[<-zo];exact((((((((bp.refl B s).set (.inl rfl) 1 _).set (.inl rfl) 2 _).set (.inl rfl) 3 _).set (.inl rfl) 4 _).set (.inl rfl) 5 _).set (.inl rfl) 6 _).set (.inl rfl) 7 _).drewn
    rw[zo];clear zo;have F:=qH<|(aD.1 zu).1;have X:=qH HC2.size;have zt:Hid (∀b,b<B->W2.heap[b]?=wr.heap[b]?):=λb hb=>(HC2.block b (by have:=F.out;omega) dg).trans (m.block (by have:=zi.out;omega));have T:=qH<|HC2.low XC (by have:=F.out;omega) (HU.trans (m.below.mono (by have:=zi.out;omega)));have zj:Hid (CS 91 73 W2 K M (W*H) W H (frK W H L P k)):=⟨(zt K zB).trans ((V K zB G.ne).trans G.kb),HV.keep (zt M QS),G.ne,G.hc⟩;have HS:Hid (∀u,bp M W2 u->u.cell? (aj B 0)=some (Pq K)/\u.cell? (aj B 1)=some (Iq s0)/\u.cell? (aj B 2)=some (Iq s1)/\u.cell? (aj B 3)=some (Iq s2)/\u.cell? (aj B 4)=some (Iq p4)/\u.cell? (aj B 5)=some (Iq p5)/\u.cell? (aj B 6)=some (Iq p6)/\u.cell? (aj B 7)=some (Iq p7)/\u.cell? (aj A 0)=some (Iq kd)/\u.cell? (aj A 1)=some (Iq a0)/\u.cell? (aj A 2)=some (Iq a1)/\u.cell? (aj A 3)=some (Iq a2)/\u.cell? (aj A 4)=some (Iq a3)/\u.cell? (aj A 5)=some (Iq a4)/\u.cell? (aj A 6)=some (Iq a5)/\u.cell? (aj A 7)=some (Iq a6)/\u.cell? (aj A 8)=some (Iq a7)/\u.cell? (aj A 9)=some (Iq a8)/\u.cell? (aj A 10)=some (Iq a9)/\u.cell? (aj A 11)=some (Iq b0)/\u.cell? (aj A 12)=some (Iq b1)/\u.cell? (aj A 13)=some (.string tx)/\u.cell? (aj A 14)=some (.slice pk kl ck)/\u.cell? (aj A 15)=some (Iq up)/\u.cell? (aj pb (k*10))=some (Iq p0)/\u.cell? (aj pb (k*10+1))=some (Iq p1)/\u.cell? (aj pb (k*10+2))=some (Iq p2)/\u.cell? (aj pb (k*10+3))=some (Iq p3)):=λu hu=>by
     have e1:=(hu.block B (by have:=F.out;have:=X.out;omega) dg).trans zK;have e2:=(hu.block A (by have:=F.out;have:=X.out;omega) dg).trans ((HC2.block A F dg).trans zu);have e3:=λo=>bf (a:=(aj pb o)) ((hu.block pb (by have:=F.out;have:=X.out;omega) zZ).trans (HC2.block pb (by have:=F.out;omega) dg));refine⟨?_,?_,?_,?_,?_,?_,?_,?_,?_,?_,?_,?_,?_,?_,?_,?_,?_,?_,?_,?_,?_,?_,?_,?_,(e3 _).trans x0,(e3 _).trans x1,(e3 _).trans x2,(e3 _).trans x3⟩;all_goals first
      |(rw[Lib.cell_of_heap e1];rfl)
      |(rw[Lib.cell_of_heap e2];rfl)
    have PA:Hid (∀u,u=W2\/u=W2.drew->Cw 13 #[.agg #[Pq K,Iq s0,Iq s1,Iq s2,Iq p4,Iq p5,Iq p6,Iq p7],.agg #[Iq kd,Iq a0,Iq a1,Iq a2,Iq a3,Iq a4,Iq a5,Iq a6,Iq a7,Iq a8,Iq a9,Iq b0,Iq b1,.string tx,.slice pk kl ck,Iq up],.agg #[Iq p0,Iq p1,Iq p2,Iq p3]] u λe J=>e=Rw (.tuple #[])/\Hid (Cv 73 J M W H (frK W H L P (k+1)))/\Hid (bp M W2 J)):=λu hu=>by
     have zT:bp M W2 u:=by rcases hu with rfl|rfl<;>first|exact bp.refl _ _|exact(bp.refl _ _).drewn
     have zU:∀b:Nat,u.heap[b]?=W2.heap[b]?:=by rcases hu with rfl|rfl<;>exact λ_=>rfl
     rw[l.out];refine(FG U u (K:=K) (M:=M) (cap:=W*H) ⟨(zU K).trans zj.kb,zj.cv.keep (zU M),zj.ne,zj.hc⟩ hW hH (PAll.frK hW hH L P k) WT (zT.low zC (by have:=T.size;omega) T) zC s0 s1 s2 p4 p5 p6 p7 kd a0 a1 a2 a3 a4 a5 a6 a7 a8 a9 b0 b1 up tx (.slice pk kl ck) p0 p1 p2 p3 Qt ?_ ?_ ?_ ?_ ?_ ?_).mono λe J q=>⟨q.1,q.2.1,zT.trans q.2.2⟩;all_goals omega
    obtain⟨g0,g1,g2,g3,g4,g5,g6,g7,g8,g9,_j,_k,_l,_m,_n,g15,g16,g17,g18,g19,_o,_p,_q,_r,_s,_t,_u,_v⟩:=HS W2 (bp.refl _ _);clear x0 x1 x2 x3 x4 x5 x6 x7 v0 v1 v2 r0 r1 r2 r3 r4 r5 r6 r7 UE l zu zJ Ly Z ze;go_wp2_with fail;go_region_held(λp=>p.cell? (aj B 0)=some (Pq K)/\p.cell? (aj B 1)=some (Iq s0)/\p.cell? (aj B 2)=some (Iq s1)/\p.cell? (aj B 3)=some (Iq s2)/\p.cell? (aj B 4)=some (Iq p4)/\p.cell? (aj B 5)=some (Iq p5)/\p.cell? (aj B 6)=some (Iq p6)/\p.cell? (aj B 7)=some (Iq p7)/\p.cell? (aj A 0)=some (Iq kd)/\p.cell? (aj A 1)=some (Iq a0)/\p.cell? (aj A 2)=some (Iq a1)/\p.cell? (aj A 3)=some (Iq a2)/\p.cell? (aj A 4)=some (Iq a3)/\p.cell? (aj A 5)=some (Iq a4)/\p.cell? (aj A 6)=some (Iq a5)/\p.cell? (aj A 7)=some (Iq a6)/\p.cell? (aj A 8)=some (Iq a7)/\p.cell? (aj A 9)=some (Iq a8)/\p.cell? (aj A 10)=some (Iq a9)/\p.cell? (aj A 11)=some (Iq b0)/\p.cell? (aj A 12)=some (Iq b1)/\p.cell? (aj A 13)=some (.string tx)/\p.cell? (aj A 14)=some (.slice pk kl ck)/\p.cell? (aj A 15)=some (Iq up)/\p.cell? (aj pb (k*10))=some (Iq p0)/\p.cell? (aj pb (k*10+1))=some (Iq p1)/\p.cell? (aj pb (k*10+2))=some (Iq p2)/\p.cell? (aj pb (k*10+3))=some (Iq p3)) (go_keep) (first|(go_at_call 13;refine ag (PA _ (by first|exact .inl rfl|exact .inr rfl)) ?_;rintro e u6 ⟨rfl,zy,HC6⟩;obtain⟨j0,j1,j2,j3,j4,j5,j6,j7,j8,j9,j10,j11,j12,j13,j14,j15,j16,j17,j18,j19,j20,j21,j22,j23,j24,j25,j26,j27⟩:=HS u6 HC6));all_goals
     have QN:Hid (R8 u6 B K s0 s1 s2 p4 p5 p6 p7):=(HC6.block B (by have:=F.out;have:=X.out;omega) dg).trans zK;have Wp:=qH<|λb h1 h2=>(HC6.block b (by have:=F.out;have:=X.out;omega) h2).trans ((zt b h1).trans (V b h1 h2));have WZ:Hid (B<u6.heap.size):=by show _<_;have:=HC6.size;have:=F.out;have:=X.out;omega
     have WW:=qH<|HC6.low zC (by have:=T.size;omega) T;go_wp2;go_roundw;case rel=>exact⟨k+1,Ql,by go_num,zy,WW,Wp,WZ,_,_,_,_,_,_,_,QN⟩
     case measure=>simp[intOf];omega
   ·have zX:¬(k:Int)<(n:Int):=dg
    obtain rfl:k=n:=dg;have QX:wr.cell? (aj B 0)=some (Pq K):=by rw[Lib.cell_of_heap HR.out];rfl
    have We:Hid (CS 91 73 wr K M (W*H) W H (frK W H L P k)):=⟨(V K zB G.ne).trans G.kb,HV,G.ne,G.hc⟩;have CE:Hid (Cw 14 #[Pq K] wr λe w'=>∃N zc,e=Rw (Sq N (W*H) zc)/\Hid (Cv 73 w' N W H (frK W H L P k))/\Hid (wr.heap.size<=N)/\Hid (Bt wr w'/\W*H<=zc/\zc<=9223372036854775807)):=EJ wr We hW hH;go_wp2_with(go_at_call 14;refine CE.mono ?_;rintro e u6 ⟨N,zQ,rfl,zy,WA,zH⟩);refine bodyPost_ret (results_tmp3 rfl _ _ _) rfl ?_;exact⟨HU.trans (zH.out.1.mono HU.size),.inr ⟨W,H,rfl,rfl,hW,hH,N,zQ,P,zx,rfl,by rw[zI.out];exact zy,aF HU.size WA,zH.out.2⟩⟩
theorem BV(t:ByteArray)(w h:Int)(sp:Option Addr)(i s:Nat)(d off:Nat->Int)(E:Nat->Addr)(U:World)(hG:vY U E)(z:gM U E)(A:vX U)(D:bN U)(j:jB U sp i d off)(l:i<=4611686018427387904)(m:∀a:Addr,sp=some a->a.block<U.heap.size):
 Cw 5 #[.string t,Iq w,Iq h,.slice sp i s] U λe o=>Pp U o w h d off i (bJ t) e:=by
 obtain⟨p,n,hS⟩:=vM t;refine(ua t w h sp i s d off E U hG z A D j l m p n hS).mono ?_;rintro e o ⟨C,q⟩;refine⟨C,?_⟩;cases hp:bJ t with
 |error x=>rw[hp]at q;exact q
 |ok L=>
  rw[hp]at q;rcases q with q|⟨W,H,F,G,I,J,N,cap,P,O,Q,r⟩;·exact .inl q
  ·exact .inr ⟨W,H,F,G,I,J,N,cap,P,p,n,hS L hp,O,Q,r.1,r.2.1⟩
end Go.Proofs.YtaanagpadfcmlaaGreatDoor
namespace Go.Proofs.YtaanagpadfcmlaaGreatDoor
set_option linter.all false
/--Ul R holds,the style is f g b now;Pa a cell VO,or QR a blank. -/
def Ov(W H:Nat)(f g b:Int)(c c':Nat->Nat->Ce)(R:Nat->Nat->Prop):Prop:=∀y j,y<H->j<W->(R y j->(c' y j).f=f/\(c' y j).g=g/\(c' y j).b=b)/\(¬R y j->c' y j=c y j\/c' y j=bl (c y j))
section
variable{W H:Nat} {f g b:Int} {c c1 c2:Nat→Nat→Ce} {R S:Nat→Nat→Prop}
theorem Ov.none(h:∀y j,y<H->j<W->¬R y j):Ov W H f g b c c R:=λy j hy a=>⟨λq=>absurd q (h y j hy a),λ_=>.inl rfl⟩
theorem Ov.trans(h1:Ov W H f g b c c1 R)(n:Ov W H f g b c1 c2 S):Ov W H f g b c c2 λy j=>R y j\/S y j:=λy j hy d=>by
 obtain⟨l,m⟩:=h1 y j hy d;obtain⟨o,a⟩:=n y j hy d;refine⟨λh=>?_,λh=>?_⟩
 ·by_cases i:S y j;·grind
  ·have:=l (h.resolve_right i);rcases a i with e|e<;>rw[e]<;>exact this
 ·rcases a (λq=>h (.inr q))with e|e<;>rw[e];·grind
  ·rcases m (λq=>h (.inl q))with e|e<;>rw[e]<;>exact .inr rfl
theorem Ov.is(h:Ov W H f g b c c1 R)(e:∀y j,y<H->j<W->(R y j↔S y j)):Ov W H f g b c c1 S:=λy j hy a=>by rw[<-e y j hy a];exact h y j hy a
theorem Ov.fill l r t d x(e:∀j,(x j).f=f/\(x j).g=g/\(x j).b=b):Ov W H f g b c (Go.Proofs.YtaanagpadfcmlaaGreatDoor.fill c l r t d x) λy j=>t<=y/\y<d/\l<=j/\j<r:=λy j hy a=>by unfold Go.Proofs.YtaanagpadfcmlaaGreatDoor.fill;grind[ju,kH]
end
/--A DI that a clip has. -/
abbrev vU(cx cy ca cb:Int)(p q:Int):Prop:=cx<=p/\p<cx+ca/\cy<=q/\q<cy+cb
structure pu(cx cy ca cb:Int):Prop where
 x:0<=cx/\cx<=400
 y:0<=cy/\cy<=400
 a:0<=ca/\ca<=400
 b:0<=cb/\cb<=400
section
variable{W H:Nat} (hW:1<=W/\W<=400) (hH:1<=H/\H<=400) {cx cy ca cb:Int} (hc:pu cx cy ca cb) (f g bd:Int) (c:Nat→Nat→Ce)
theorem DP(hW:1<=W/\W<=400)(hH:1<=H/\H<=400)(hc:pu cx cy ca cb){x y a b}(n:0<=a/\a<=100000)(o:0<=b/\b<=100000)q p(A:q<H)(hp:p<W):
 ((cj W H x y a b cx cy ca cb).2.1.toNat<=q/\q<((cj W H x y a b cx cy ca cb).2.1+(cj W H x y a b cx cy ca cb).2.2.2).toNat/\(cj W H x y a b cx cy ca cb).1.toNat<=p/\p<((cj W H x y a b cx cy ca cb).1+(cj W H x y a b cx cy ca cb).2.2.1).toNat)↔((x<=p/\p<x+a/\y<=q/\q<y+b)/\vU cx cy ca cb p q):=by
 have d:=de (W:=(W:Int)) (H:=(H:Int)) dg dg x y a b cx cy ca cb;have r:=d.mem p q;have:=d.l0;have:=d.t0;have:=d.u0;have:=d.v0;have e:aJ cx=cx:=eY (by have:=hc.x;omega);have h:aJ cy=cy:=eY (by have:=hc.y;omega);have i:aO ca=ca:=cN (by have:=hc.a;omega);have j:aO cb=cb:=cN (by have:=hc.b;omega);have l:=cN n;have m:=cN o;rw[e,h,i,j,l,m]at r;have s:(aJ x<=p/\p<aJ x+a)↔(x<=p/\p<x+a):=by unfold aJ;omega
 have t:(aJ y<=q/\q<aJ y+b)↔(y<=q/\q<y+b):=by unfold aJ;omega
 unfold vU;generalize cj W H x y a b cx cy ca cb=z at*;omega
theorem Ov.fil(hW:1<=W/\W<=400)(hH:1<=H/\H<=400)(hc:pu cx cy ca cb){x y a b}(d:0<=a/\a<=100000)(e:0<=b/\b<=100000):
 Ov W H (kn f) (kn g) (bo bd) c (ir W H c x y a b f g bd cx cy ca cb) λq p=>(x<=p/\p<x+a/\y<=q/\q<y+b)/\vU cx cy ca cb p q:=
 (Ov.fill _ _ _ _ _ λ_=>⟨rfl,rfl,rfl⟩).is λq p h hp=>DP hW hH hc d e q p h hp
theorem Ov.put(hW:1<=W/\W<=400)(hH:1<=H/\H<=400)(hc:pu cx cy ca cb)x y d{a}(h:0<=a/\a<=2):
 Ov W H (kn f) (kn g) (bo bd) c (eT W H c x y d a f g bd cx cy ca cb) λq p=>q=y/\(x<=p/\p<x+a)/\vU cx cy ca cb p q:=by
 unfold eT vy;split;·refine(Ov.fill _ _ _ _ _ λj=>?_).is λq p e hp=>(DP hW hH hc dg dg q p e hp).trans dg;unfold putX Fb;(repeat' split)<;>first|exact⟨rfl,rfl,rfl⟩|grind
 grind[Ov.none]
theorem Ov.wrF(hW:1<=W/\W<=400)(hH:1<=H/\H<=400)(hc:pu cx cy ca cb)y:∀  l   x   c,(∀q∈l,0<=q.2/\q.2<=2)->Ov W H (kn f) (kn g) (bo bd) c (Go.Proofs.YtaanagpadfcmlaaGreatDoor.wrF W H f g bd cx cy ca cb y l x c) λq p=>q=y/\(x<=p/\p<x+ai l)/\vU cx cy ca cb p q
 |[],x,c,_=>Ov.none λq p _ _=>by grind[ai]
 |q::r,x,c,h=>by have j:=h q Ag;have m:=(bB r (λp hp=>h p (Ah _ hp)) r.length).1;rw[io]at m;refine((Ov.put f g bd c hW hH hc x y ⟨q.1.toArray⟩ j).trans (Ov.wrF hW hH hc y r (x+q.2) _ λp hp=>h p (Ah _ hp))).is λn p _ _=>?_;grind[cZ]
/--A i e a are d. -/
theorem Ov.wrL(hW:1<=W/\W<=400)(hH:1<=H/\H<=400)(hc:pu cx cy ca cb)x y m(e:∀d∈m,sH d):
 Ov W H (kn f) (kn g) (bo bd) c (Go.Proofs.YtaanagpadfcmlaaGreatDoor.wrL W H f g bd cx cy ca cb x y (aB m) c) λq p=>q=y/\(x<=p/\p<x+ai m)/\vU cx cy ca cb p q:=by
 have a:=cE (ak (aB m));rw[iZ m e]at a;unfold Go.Proofs.YtaanagpadfcmlaaGreatDoor.wrL;split;·exact Ov.none λq p _ _=>dg
 grind[iZ,Ov.wrF]
end
/--A text that is so many normal P7 wide,at most. -/
def Gz(w:Int)(s:List UInt8):Prop:=∃m,(∀d∈m,sH d)/\s=aB m/\ai m<=w
theorem li n d(hd:sH d)(h1:d.2=1):(∀x∈List.replicate n d,sH x)/\ai (List.replicate n d)=n:=by
 refine⟨λx a=>by rw[N1 a];exact hd,?_⟩;induction n with
 |zero=>rfl
 |succ n e=>rw[Ky,cZ,e,h1];omega
theorem my n b:aB (List.replicate n ([b],(1:Int)))=List.replicate n b:=by
 induction n with
 |zero=>rfl
 |succ n j=>grind[eq]
/--d,a h is as wide as it e i. -/
theorem K4{w al}{s}(t:0<=w/\w<=100000)(h:Gz w s):∃m,(∀d∈m,sH d)/\iJ s (ai (aG (ak s))) w al=aB m/\ai m=w:=by
 obtain⟨m,a,rfl,r⟩:=h;rw[iZ m a];unfold iJ;have p:min w 100000=w:=dg;rw[p];split;·exact⟨m,a,rfl,dg⟩
 ·obtain⟨n,e⟩:∃n,(w-ai m).toNat=n:=⟨_,rfl⟩;have q:=uL n al;rw[e];obtain⟨i,j⟩:=li (oH n al) ([32],1) k_ rfl;obtain⟨l,o⟩:=li (n-oH n al) ([32],1) k_ rfl;refine⟨List.replicate (oH n al) ([32],1)++m++List.replicate (n-oH n al) ([32],1),λd hd=>?_,?_,?_⟩
  ·rcases gF.1 hd with hd|hd
   ·rcases gF.1 hd with hd|hd;·exact i d hd
    ·exact a d hd
   ·exact l d hd
  ·rw[fg,fg,my,my]
  ·rw[fx,fx,j,o];omega
theorem IU l w(n:1<=w)(i:∀c∈l,sH c):∀  f a,∀x∈gW f l w a,Gz w x.T:=by
 have e:∀a,Gz w (cu l w a).T:=λa=>by
  simp only[cu];split;·obtain⟨h,m⟩:=li w.toNat ([32],1) k_ rfl;exact⟨_,h,(my _ _).symm,dg⟩
  ·exact⟨_,λc hc=>i c (iI (iH hc)),rfl,dg⟩
 intro f;induction f with
 |zero=>intro a x d;cases d
 |succ f j=>
  intro a x d;simp only[gW]at d;split at d;·rw[lS.1 d];exact e a
  ·rcases gE.1 d with rfl|d;·exact e a
   ·exact j _ x d
theorem MQ t e w(o:1<=w):∀s∈gC t e w,Gz w s:=by
 intro s h;unfold gC at h;split at h;·obtain⟨x,i,rfl⟩:=jL.1 h;unfold a_ at i;rw[if_neg dg]at i;exact IU _ w o (wP _ (rO t)) _ _ x i
 ·obtain⟨p,hp,rfl⟩:=jL.1 h;have j:=Md (wP _ (rO p));have m:=rl (cE (ak p));generalize one (aG (ak p))=l at*;unfold fD;rw[if_neg dg];split;·exact⟨l,j,rfl,dg⟩
  ·have q:ai (l.take (cR l (w-1)))<=w-1:=by
    have a:=iU l (w-1) m;cases r:cR l (w-1)with
    |zero=>show(0:Int)<=w-1;omega
    |succ n=>exact(a.1 n dg).2
   refine⟨l.take (cR l (w-1))++[([226,128,166],1)],λd hd=>?_,by rw[fg];rfl,?_⟩
   ·rcases gF.1 hd with hd|hd;·exact j d (iH hd)
    ·rw[lS.1 hd];exact I'
   ·rw[fx];show _+1<=w;omega
section
variable{W H:Nat} {cx cy ca cb:Int} (f g bd:Int) (c:Nat→Nat→Ce)
theorem Ov.txK(hW:1<=W/\W<=400)(hH:1<=H/\H<=400)(hc:pu cx cy ca cb)x w al(a:0<=w/\w<=100000):∀  l   y   c,(∀s∈l,Gz w s)->Ov W H (kn f) (kn g) (bo bd) c (Go.Proofs.YtaanagpadfcmlaaGreatDoor.txK W H f g bd cx cy ca cb x w al l y c) λq p=>(y<=q/\q<y+l.length)/\(x<=p/\p<x+w)/\vU cx cy ca cb p q
 |[],y,c,_=>Ov.none λq p _ _=>rd
 |s::r,y,c,h=>by obtain⟨m,h1,d,i⟩:=K4 (al:=al) a (h s Ag);have e:=Ov.wrL f g bd c hW hH hc x y m h1;rw[<-d,i]at e;refine(e.trans (Ov.txK hW hH hc x w al a r (y+1) _ λp hp=>h p (Ah _ hp))).is λq p _ _=>?_;grind
theorem L_:∀r∈([9472,9474,9484,9488,9492,9496]:List Int),sH (enc [r],jF r)/\jF r=1:=by have a:∀r:Int,Good r->jF r=1->r≠10->sH (enc [r],jF r)/\jF r=1:=λr h1 d h=>⟨vr r h1 (by rw[ep,d];omega) h,d⟩;intro r e;simp only[gE,Kb,or_false]at e;rcases e with rfl|rfl|rfl|rfl|rfl|rfl<;>exact a _ ⟨.inl dg,rfl⟩ (by decide+kernel) dg
theorem KK r t(a:r∈([9472,9474,9484,9488,9492,9496]:List Int))(e:enc [r]=t):sH (t,1):=by grind[L_]
theorem kD t:∀n,Lib.repeatL t n=aB (List.replicate n (t,(1:Int)))
 |0=>rfl
 |n+1=>by rw[Ky,eq,<-kD t n];rfl
/--A e of a d. -/
theorem DQ l r(h:sH (l,1))(i:sH (r,1))n:∃m,(∀d∈m,sH d)/\(ic ⟨l.toArray⟩ ⟨r.toArray⟩ n).data.toList=aB m/\ai m=n+2:=by
 obtain⟨a,e⟩:=li n ([226,148,128],1) (KK 9472 _ rn (by decide+kernel)) rfl;refine⟨(l,1)::(List.replicate n ([226,148,128],1)++[(r,1)]),λd hd=>?_,?_,?_⟩
 ·rcases gE.1 hd with rfl|hd;·exact h
  ·rcases gF.1 hd with hd|hd;·exact a d hd
   ·rw[lS.1 hd];exact i
 ·rw[eq,fg,<-kD];unfold ic;simp[aB]
 ·rw[cZ,fx,e];show 1+((n:Int)+1)=_;omega
theorem Ov.bdK(hW:1<=W/\W<=400)(hH:1<=H/\H<=400)(hc:pu cx cy ca cb)x a y:∀k,Ov W H (kn f) (kn g) (bo bd) c (Go.Proofs.YtaanagpadfcmlaaGreatDoor.bdK W H f g bd cx cy ca cb x a y c k) λq p=>(y<q/\q<=y+k)/\(p=x\/p=a)/\vU cx cy ca cb p q
 |0=>Ov.none λq p _ _=>dg
 |k+1=>by
  have h:∀d∈[(([226,148,130],1):List UInt8×Int)],sH d:=λd hd=>by rw[lS.1 hd];exact KK 9474 _ rn (by decide+kernel)
  have i:aB [(([226,148,130],1):List UInt8×Int)]=[226,148,130]:=rfl;have j:ai [(([226,148,130],1):List UInt8×Int)]=1:=rfl;have h1:=Ov.wrL f g bd (Go.Proofs.YtaanagpadfcmlaaGreatDoor.bdK W H f g bd cx cy ca cb x a y c k) hW hH hc x (y+1+k) _ h;have e:=Ov.wrL f g bd (Go.Proofs.YtaanagpadfcmlaaGreatDoor.wrL W H f g bd cx cy ca cb x (y+1+k) [226,148,130] (Go.Proofs.YtaanagpadfcmlaaGreatDoor.bdK W H f g bd cx cy ca cb x a y c k)) hW hH hc a (y+1+k) _ h;rw[i,j]at h1 e;refine(((Ov.bdK hW hH hc x a y k).trans h1).trans e).is λq p _ _=>?_;omega
theorem Ov.bdF(hW:1<=W/\W<=400)(hH:1<=H/\H<=400)(hc:pu cx cy ca cb)x y w hh(z:2<=w)(o:2<=hh):Ov W H (kn f) (kn g) (bo bd) c (Go.Proofs.YtaanagpadfcmlaaGreatDoor.bdF W H f g bd cx cy ca cb x y w hh c) λq p=>(x<=p/\p<x+w/\y<=q/\q<y+hh)/\(p=x\/p=x+w-1\/q=y\/q=y+hh-1)/\vU cx cy ca cb p q:=by obtain⟨n,r⟩:∃n:Nat,(w-2).toNat=n:=⟨_,rfl⟩;obtain⟨s,d,e,h⟩:=DQ [226,148,140] [226,148,144] (KK 9484 _ rn (by decide+kernel)) (KK 9488 _ rn (by decide+kernel)) n;obtain⟨t,i,j,l⟩:=DQ [226,148,148] [226,148,152] (KK 9492 _ rn (by decide+kernel)) (KK 9496 _ rn (by decide+kernel)) n;have h1:=Ov.wrL f g bd c hW hH hc x y s d;rw[<-e,h]at h1;have m:=h1.trans (Ov.bdK f g bd _ hW hH hc x (x+w-1) y (hh-2).toNat);have a:=Ov.wrL f g bd (Go.Proofs.YtaanagpadfcmlaaGreatDoor.bdK W H f g bd cx cy ca cb x (x+w-1) y (Go.Proofs.YtaanagpadfcmlaaGreatDoor.wrL W H f g bd cx cy ca cb x y (ic ⟨#[226,148,140]⟩ ⟨#[226,148,144]⟩ n).data.toList c) (hh-2).toNat) hW hH hc x (y+hh-1) t i;rw[<-j,l]at a;unfold Go.Proofs.YtaanagpadfcmlaaGreatDoor.bdF;rw[r];refine(m.trans a).is λq p _ _=>?_;omega
end
/--ZU many Vw a text TB. -/
def JE(t:List UInt8)(wrap w hh:Int):Nat:=if w<1 then 0 else min (gC t wrap w).length hh.toNat
/--V7 a bM Vy at a DI? -/
def Qa(kd a6 a8 b0:Int)(t:List UInt8)(x y w hh cx cy ca cb p q:Int):Bool:=
 if cx<=p/\p<cx+ca/\cy<=q/\q<cy+cb then(if 0<b0 then true else if kd=5 then decide (q-y<JE t a8 w hh)else decide ((kd=3/\a6=1/\2<=w/\2<=hh)/\(p=x\/p=x+w-1\/q=y\/q=y+hh-1)))else false
/--Eo Z6 be seen of a FP on the OX Zl within it. -/
def O9(x y w hh cx cy ca cb:Int):Prop:=∀p q,vU cx cy ca cb p q->x<=p/\p<x+w/\y<=q/\q<y+hh
theorem Ov.pnF{W H}(hW:1<=W/\W<=400)(hH:1<=H/\H<=400){f g bd cx cy ca cb kd a6 a7 a8 b0}{t}{x y w hh}{c}(hc:pu cx cy ca cb)(a:O9 x y w hh cx cy ca cb)(j:0<=w/\w<=100000)(d:0<=hh/\hh<=100000):
 Ov W H (kn f) (kn g) (bo bd) c (Go.Proofs.YtaanagpadfcmlaaGreatDoor.pnF W H f g bd cx cy ca cb kd a6 a7 a8 b0 t x y w hh c) λq p=>Qa kd a6 a8 b0 t x y w hh cx cy ca cb p q=true:=by
 have h1:Ov W H (kn f) (kn g) (bo bd) c (if 0<b0 then ir W H c x y w hh f g bd cx cy ca cb else c) λq p=>0<b0/\vU cx cy ca cb p q:=by
  split;·exact(Ov.fil f g bd c hW hH hc j d).is λq p _ _=>⟨λh=>⟨by assumption,h.2⟩,λh=>⟨a _ _ h.2,h.2⟩⟩
  ·exact Ov.none λq p _ _=>dg
 have o:∀n:Nat,(((gC t a8 w).take n).length:Int)=min (gC t a8 w).length n:=λn=>by rw[b_];omega
 unfold Go.Proofs.YtaanagpadfcmlaaGreatDoor.pnF;split
 ·rename_i e;refine(h1.trans (Ov.bdF f g bd _ hW hH hc x y w hh dg dg)).is λq p _ _=>?_;have l:=a p q;unfold Qa;unfold vU at*;split
  ·split;·simp;omega
   ·rw[if_neg dg,decide_eq_true_eq];omega
  ·simp;omega
 ·split
  ·rename_i r e;refine(h1.trans (Ov.txK f g bd hW hH hc x w a7 j _ y _ λs z=>MQ t a8 w e.2 s (iH z))).is λq p _ _=>?_;have l:=a p q;rw[o];unfold Qa JE;unfold vU at*;rw[if_neg (c:=w<1) dg];split
   ·split;·simp;omega
    ·rw[if_pos dg,decide_eq_true_eq];omega
   ·simp;omega
  ·rename_i r e;refine h1.is λq p _ _=>?_;have l:=a p q;unfold Qa JE;unfold vU at*;split
   ·split;·simp;omega
    ·split;·rw[decide_eq_true_eq,if_pos dg];omega
     ·rw[decide_eq_true_eq];omega
   ·simp;omega
/--The m one of i ahead of k that has it. -/
def lI(Ur:Nat->Bool):Nat->Int
 |0=>-1
 |k+1=>if Ur k=true then(k:Int)else lI Ur k
theorem IP a:∀k,-1<=lI a k/\lI a k<k
 |0=>⟨iD _,by show(-1:Int)<0;omega⟩
 |k+1=>by have:=IP a k;unfold lI;split<;>omega
/--e h k d at p q? -/
def EY(L:List Nd)(P:Nat->Nat->Int)(p q:Int)(k:Nat):Bool:=Qa (aa L k).kind (ap (aa L k) 6) (ap (aa L k) 8) (ap (aa L k) 10) (aa L k).text (P k 0) (P k 1) (P k 2) (P k 3) (P k 4) (P k 5) (P k 6) (P k 7) p q
theorem O3 L k:kn (eZ L k).1=(eZ L k).1/\kn (eZ L k).2.1=(eZ L k).2.1/\bo (eZ L k).2.2=(eZ L k).2.2:=⟨NE _ _,NE _ _,N9 _ _⟩
/--j: a cell has the e of the i one that d h;else it is a blank. -/
theorem Ih{W H:Nat}(hW:1<=W/\W<=400)(hH:1<=H/\H<=400){L}{P}(hc:∀k,k<L.length->pu (P k 4) (P k 5) (P k 6) (P k 7)/\O9 (P k 0) (P k 1) (P k 2) (P k 3) (P k 4) (P k 5) (P k 6) (P k 7)/\(0<=P k 2/\P k 2<=100000)/\(0<=P k 3/\P k 3<=100000)){q p}(d:q<H)(hp:p<W):∀k,k<=L.length->
 (lI (EY L P p q) k<0->frK W H L P k q p=bk 0 0 0)/\(0<=lI (EY L P p q) k->(frK W H L P k q p).f=(eZ L (lI (EY L P p q) k).toNat).1/\(frK W H L P k q p).g=(eZ L (lI (EY L P p q) k).toNat).2.1/\(frK W H L P k q p).b=(eZ L (lI (EY L P p q) k).toNat).2.2)
 |0,_=>⟨λ_=>rfl,λh=>absurd h (by show¬(0:Int)<=-1;omega)⟩
 |k+1,A=>by
  obtain⟨i,j⟩:=Ih hW hH hc d hp k dg;obtain⟨l,m,n,o⟩:=hc k dg;have a:=Ov.pnF (f:=(eZ L k).1) (g:=(eZ L k).2.1) (bd:=(eZ L k).2.2) (kd:=(aa L k).kind) (a6:=ap (aa L k) 6) (a7:=ap (aa L k) 7) (a8:=ap (aa L k) 8) (b0:=ap (aa L k) 10) (t:=(aa L k).text) (c:=frK W H L P k) hW hH l m n o q p d hp;obtain⟨r,s,z⟩:=O3 L k;rw[r,s,z]at a;unfold lI frK;by_cases h:EY L P p q k=true;·rw[if_pos h,jG];exact⟨λh=>dg,λ_=>a.1 h⟩
  ·rw[if_neg h];rcases a.2 h with e|e<;>rw[e];·exact⟨i,j⟩
   ·refine⟨λh=>by rw[i h];rfl,j⟩
end Go.Proofs.YtaanagpadfcmlaaGreatDoor
namespace Go.Proofs.YtaanagpadfcmlaaGreatDoor
set_option linter.all false
/--The PZ Zp at a DI;0: none. -/
def sJ(x y w hh p q:Int):Int:=
 if q=y then if p=x then 9484 else if p=x+w-1 then 9488 else 9472
 else if q=y+hh-1 then if p=x then 9492 else if p=x+w-1 then 9496 else 9472
 else if p=x\/p=x+w-1 then 9474 else 0
section
variable(W H:Nat) (f g bd cx cy ca cb x y w hh:Int)
/--k places of a row. -/
def sI(q:Int)(c:Nat->Nat->Ce):Nat->Nat->Nat->Ce
 |0=>c
 |k+1=>if 0<sJ x y w hh (x+k) q then eT W H (sI q c k) (x+k) q ⟨(enc [sJ x y w hh (x+k) q]).toArray⟩ 1 f g bd cx cy ca cb else sI q c k
/--k rows. -/
def tI(c:Nat->Nat->Ce):Nat->Nat->Nat->Ce
 |0=>c
 |k+1=>sI W H f g bd cx cy ca cb x y w hh (y+k) (tI c k) w.toNat
end
section
variable{W H:Nat} {f g bd cx cy ca cb x y w hh:Int} {c:Nat→Nat→Ce}
theorem yt(hW:1<=W/\W<=400)(hH:1<=H/\H<=400)(hc:pu cx cy ca cb){p q:Int}{t:ByteArray}(h:¬vU cx cy ca cb p q):eT W H c p q t 1 f g bd cx cy ca cb=c:=by
 by_cases e:q<0\/(H:Int)<=q\/p< -1\/(W:Int)<=p;·grind[rA]
 have d:=de (W:=W) (H:=H) dg dg p q 1 1 cx cy ca cb;unfold eT vy;generalize cj W H p q 1 1 cx cy ca cb=z at d⊢;obtain⟨l,t,u,v⟩:=z;simp only at d⊢;rw[if_pos rn];refine fR (λi=>?_);have j:=d.l0;have t0:=d.t0;have m:=(d.mem l t).1 dg;rw[km,eY (n:=cx) (by have:=hc.x;omega),eY (n:=cy) (by have:=hc.y;omega),cN (n:=ca) (by have:=hc.a;omega),cN (n:=cb) (by have:=hc.b;omega),eY (n:=p) dg,eY (n:=q) dg]at m;omega
theorem jZ{q:Int}(k:Nat):sI W H f g bd cx cy ca cb x y w hh q c (k+1)=if 0<sJ x y w hh (x+k) q then eT W H (sI W H f g bd cx cy ca cb x y w hh q c k) (x+k) q ⟨(enc [sJ x y w hh (x+k) q]).toArray⟩ 1 f g bd cx cy ca cb else sI W H f g bd cx cy ca cb x y w hh q c k:=rfl
theorem wY(k:Nat):tI W H f g bd cx cy ca cb x y w hh c (k+1)=sI W H f g bd cx cy ca cb x y w hh (y+k) (tI W H f g bd cx cy ca cb x y w hh c k) w.toNat:=rfl
/--e d h seen is not a. -/
theorem mS(hW:1<=W/\W<=400)(hH:1<=H/\H<=400)(hc:pu cx cy ca cb)(q:Int)(k:Nat):∀i,(∀j,k<=j->j<k+i->¬vU cx cy ca cb (x+j) q)->sI W H f g bd cx cy ca cb x y w hh q c (k+i)=sI W H f g bd cx cy ca cb x y w hh q c k
 |0,_=>rfl
 |i+1,h=>by have:=mS hW hH hc q k i λj h1 a=>h j h1 dg;grind[jZ,yt]
theorem pT(hW:1<=W/\W<=400)(hH:1<=H/\H<=400)(hc:pu cx cy ca cb)(k:Nat):∀i,(∀j:Nat,k<=j->j<k+i->∀p:Int,x<=p->p<x+w->¬vU cx cy ca cb p (y+j))->tI W H f g bd cx cy ca cb x y w hh c (k+i)=tI W H f g bd cx cy ca cb x y w hh c k
 |0,_=>rfl
 |i+1,h=>by rw[<-Nat.add_assoc,wY,pT hW hH hc k i λj h1 l=>h j h1 dg];have:=mS (c:=tI W H f g bd cx cy ca cb x y w hh c k) (f:=f) (g:=g) (bd:=bd) (x:=x) (y:=y) (w:=w) (hh:=hh) hW hH hc (y+(k+i:Nat)) 0 w.toNat λj _ l=>h (k+i) dg dg (x+j) dg dg;rw[aZ]at this;exact this
/--a of one d each,m one behind the e. -/
theorem D4(q:Int)(m:List (List UInt8×Int))(a:∀k (e:k<m.length),m[k]=(enc [sJ x y w hh (x+k) q],1)/\0<sJ x y w hh (x+k) q):∀k,k<=m.length->wrF W H f g bd cx cy ca cb q (m.take k) x c=sI W H f g bd cx cy ca cb x y w hh q c k
 |0,_=>by rw[Au];rfl
 |k+1,e=>by
  have h:ai (m.take k)=k:=by
   have:∀j,j<=m.length->ai (m.take j)=j:=λj=>by
    induction j with
    |zero=>intro _;rfl
    |succ j i=>intro l;rw[gG dg,fx,i dg,(a j dg).1];show(j:Int)+1=_;omega
   exact this k dg
  rw[wrF_next _ _ _ _ _ _ _ _ _ _ _ _ dg,D4 q m a k dg,h,(a k dg).1];show _=if _ then _ else _;grind
/--A d. -/
theorem ME{a b:Int}(h:a∈([9472,9474,9484,9488,9492,9496]:List Int))(i:b∈([9472,9474,9484,9488,9492,9496]:List Int))(n:Nat):(∀d∈(enc [a],(1:Int))::(List.replicate n (enc [9472],(1:Int))++[(enc [b],1)]),sH d)/\(ic ⟨(enc [a]).toArray⟩ ⟨(enc [b]).toArray⟩ n).data.toList=aB ((enc [a],(1:Int))::(List.replicate n (enc [9472],(1:Int))++[(enc [b],1)])):=by
 have e:enc [9472]=[226,148,128]:=by decide+kernel
 refine⟨λd hd=>?_,?_⟩
 ·rcases gE.1 hd with rfl|hd;·exact KK a _ h rfl
  ·rcases gF.1 hd with hd|hd;·rw[N1 hd];exact KK 9472 _ rn rfl
   ·rw[lS.1 hd];exact KK b _ i rfl
 ·rw[eq,fg,e,<-kD];unfold ic;simp[aB]
theorem Aa(hW:1<=W/\W<=400)(hH:1<=H/\H<=400)(hc:pu cx cy ca cb)(q:Int){a b:Int}(e:a∈([9472,9474,9484,9488,9492,9496]:List Int))(i:b∈([9472,9474,9484,9488,9492,9496]:List Int))(z:2<=w)(n:∀p,sJ x y w hh p q=if p=x then a else if p=x+w-1 then b else 9472):
 wrL W H f g bd cx cy ca cb x q (ic ⟨(enc [a]).toArray⟩ ⟨(enc [b]).toArray⟩ (w-2).toNat).data.toList c=sI W H f g bd cx cy ca cb x y w hh q c w.toNat:=by
 unfold wrL;split
 ·have:=mS (c:=c) (f:=f) (g:=g) (bd:=bd) (x:=x) (y:=y) (w:=w) (hh:=hh) hW hH hc q 0 w.toNat λj _ _=>dg
  rw[aZ]at this;exact this.symm
 ·obtain⟨s,t⟩:=ME e i (w-2).toNat;have o:((enc [a],(1:Int))::(List.replicate (w-2).toNat (enc [9472],(1:Int))++[(enc [b],1)])).length=w.toNat:=by simp;omega
  rw[t,iZ _ s];obtain⟨m,r⟩:=ad ((enc [a],(1:Int))::(List.replicate (w-2).toNat (enc [9472],(1:Int))++[(enc [b],1)]));have d:∀k (l:k<m.length),m[k]=(enc [sJ x y w hh (x+k) q],1)/\0<sJ x y w hh (x+k) q:=?_;·have:=D4 (W:=W) (H:=H) (f:=f) (g:=g) (bd:=bd) (cx:=cx) (cy:=cy) (ca:=ca) (cb:=cb) (x:=x) (y:=y) (w:=w) (hh:=hh) (c:=c) q m d m.length (ae _);rw[io]at this;grind
  ·intro k l;subst r;rw[o]at l;rw[n];simp only[gE,Kb,or_false]at e i;rcases(by omega:k=0\/(0<k/\k<(w-2).toNat+1)\/k=(w-2).toNat+1)with rfl|h|rfl;·rw[if_pos rn];exact⟨rfl,dg⟩
   ·obtain⟨j,rfl⟩:∃j,k=j+1:=⟨k-1,dg⟩;rw[if_neg dg,if_neg dg];simp_all
   ·rw[if_neg dg,if_pos dg];refine⟨?_,dg⟩;simp_all
/--One sign. -/
theorem M4(hW:1<=W/\W<=400)(hH:1<=H/\H<=400)(hc:pu cx cy ca cb)(p q:Int)(c:Nat->Nat->Ce):wrL W H f g bd cx cy ca cb p q [226,148,130] c=eT W H c p q ⟨(enc [9474]).toArray⟩ 1 f g bd cx cy ca cb:=by
 have e:enc [9474]=[226,148,130]:=by decide+kernel
 unfold wrL;split;·exact(yt hW hH hc dg).symm
 ·have:=iZ [(enc [9474],(1:Int))] λd hd=>by rw[lS.1 hd];exact KK 9474 _ rn rfl
  rw[show aB [(enc [9474],(1:Int))]=[226,148,130]by grind[aB]]at this;rw[this];rfl
/--A row a. -/
theorem Lk(q:Int)(t:2<=w)(h1:q≠y)(r:q≠y+hh-1):sI W H f g bd cx cy ca cb x y w hh q c w.toNat=eT W H (eT W H c x q ⟨(enc [9474]).toArray⟩ 1 f g bd cx cy ca cb) (x+w-1) q ⟨(enc [9474]).toArray⟩ 1 f g bd cx cy ca cb:=by
 have h:∀p,sJ x y w hh p q=if p=x\/p=x+w-1 then 9474 else 0:=λp=>by grind[sJ]
 obtain⟨n,s⟩:∃n:Nat,w=n+2:=⟨(w-2).toNat,dg⟩;have l:sJ x y w hh (x+((0:Nat):Int)) q=9474:=by rw[h,if_pos dg]
 have C:sI W H f g bd cx cy ca cb x y w hh q c 1=eT W H c x q ⟨(enc [9474]).toArray⟩ 1 f g bd cx cy ca cb:=by have:=jZ (W:=W) (H:=H) (f:=f) (g:=g) (bd:=bd) (cx:=cx) (cy:=cy) (ca:=ca) (cb:=cb) (x:=x) (y:=y) (w:=w) (hh:=hh) (q:=q) (c:=c) 0;rw[l,if_pos (by decide),show x+((0:Nat):Int)=x by omega]at this;exact this
 have e:∀i,i<=n->sI W H f g bd cx cy ca cb x y w hh q c (1+i)=eT W H c x q ⟨(enc [9474]).toArray⟩ 1 f g bd cx cy ca cb:=λi=>by
  induction i with
  |zero=>grind
  |succ i z=>grind[sJ,jZ]
 have m:sJ x y w hh (x+((1+n:Nat):Int)) q=9474:=by rw[h,if_pos dg]
 rw[show w.toNat=(1+n)+1 by omega,jZ,m,if_pos (by decide),e n (ae _),show x+((1+n:Nat):Int)=x+w-1 by omega]
/--A d is the j,o a by a. -/
theorem N8(hW:1<=W/\W<=400)(hH:1<=H/\H<=400)(hc:pu cx cy ca cb)(i:2<=w)(l:2<=hh):bdF W H f g bd cx cy ca cb x y w hh c=tI W H f g bd cx cy ca cb x y w hh c hh.toNat:=by
 have t1:=Aa (f:=f) (g:=g) (bd:=bd) (x:=x) (y:=y) (w:=w) (hh:=hh) (c:=c) hW hH hc y (a:=9484) (b:=9488) rn rn i λp=>by grind[sJ]
 have m:∀k:Nat,(k:Int)<=hh-2->bdK W H f g bd cx cy ca cb x (x+w-1) y (sI W H f g bd cx cy ca cb x y w hh y c w.toNat) k=tI W H f g bd cx cy ca cb x y w hh c (1+k):=λk=>by
  induction k with
  |zero=>intro _;show _=sI W H f g bd cx cy ca cb x y w hh (y+((0:Nat):Int)) c w.toNat;rw[show y+((0:Nat):Int)=y by omega];rfl
  |succ k o=>grind[wrL,bdK,sI,tI,M4,Lk]
 have t2:=Aa (f:=f) (g:=g) (bd:=bd) (x:=x) (y:=y) (w:=w) (hh:=hh) (c:=tI W H f g bd cx cy ca cb x y w hh c (1+(hh-2).toNat)) hW hH hc (y+hh-1) (a:=9492) (b:=9496) rn rn i λp=>by grind[sJ]
 rw[show enc [9484]=[226,148,140]by decide+kernel,show enc [9488]=[226,148,144]by decide+kernel]at t1;rw[show enc [9492]=[226,148,148]by decide+kernel,show enc [9496]=[226,148,152]by decide+kernel]at t2;unfold bdF;rw[t1,m _ dg,t2,show hh.toNat=(1+(hh-2).toNat)+1 by omega];show _=sI W H f g bd cx cy ca cb x y w hh (y+((1+(hh-2).toNat:Nat):Int)) _ _;grind
/--h places of a e j n seen,as the d loops run. -/
structure V8(W H:Nat)(f g bd cx cy ca cb x y w hh s0 s1 s2 s3:Int)(j0 i0:Nat):Prop where
 n2:0<=s2/\s2<=100000
 n3:0<=s3/\s3<=100000
 lo:-200000<=s0/\s0<=200000/\-200000<=s1/\s1<=200000
 f1:∀c,tI W H f g bd cx cy ca cb x y w hh c j0=c
 f2:∀c,tI W H f g bd cx cy ca cb x y w hh c (j0+s3.toNat)=tI W H f g bd cx cy ca cb x y w hh c hh.toNat
 f3:∀j:Nat,(j:Int)<s3->s1+j=y+(j0+j:Nat)/\∀c,sI W H f g bd cx cy ca cb x y w hh (s1+j) c i0=c/\sI W H f g bd cx cy ca cb x y w hh (s1+j) c (i0+s2.toNat)=sI W H f g bd cx cy ca cb x y w hh (s1+j) c w.toNat
 f4:∀i:Nat,(i:Int)<s2->s0+i=x+(i0+i:Nat)
theorem Oh(hW:1<=W/\W<=400)(hH:1<=H/\H<=400)(hc:pu cx cy ca cb)(e:O9 x y w hh cx cy ca cb)(O:2<=w/\w<=100000)(z:2<=hh/\hh<=100000):∃F E,V8 W H f g bd cx cy ca cb x y w hh (d_ x y w hh cx cy ca cb).1 (d_ x y w hh cx cy ca cb).2.1 (d_ x y w hh cx cy ca cb).2.2.1 (d_ x y w hh cx cy ca cb).2.2.2 F E:=by
 have h:aJ cx=cx:=eY (by have:=hc.x;omega);have l:aJ cy=cy:=eY (by have:=hc.y;omega);have m:aO ca=ca:=cN (by have:=hc.a;omega);have n:aO cb=cb:=cN (by have:=hc.b;omega);have o:aO w=w:=cN dg;have q:aO hh=hh:=cN dg;have G:=hc.x;have I:=hc.y;have J:=hc.a;have L:=hc.b;unfold d_ eQ fQ;rw[h,l,m,n,o,q];by_cases D:0<ca/\0<cb
 ·have P:=e cx cy ⟨dg,dg,dg,dg⟩;have Q:=e (cx+ca-1) (cy+cb-1) ⟨dg,dg,dg,dg⟩;have r:max (aJ x) cx=cx:=by unfold aJ;omega
  have h1:min (aJ x+w) (cx+ca)=cx+ca:=by unfold aJ;omega
  have s:max (aJ y) cy=cy:=by unfold aJ;omega
  have t:min (aJ y+hh) (cy+cb)=cy+cb:=by unfold aJ;omega
  rw[r,h1,s,t,if_neg dg];have t1:cx+ca-cx=ca:=dg;have t2:cy+cb-cy=cb:=dg;simp only[t1,t2];refine⟨(cy-y).toNat,(cx-x).toNat,dg,dg,dg,λc=>?_,λc=>?_,λj C=>⟨dg,λc=>⟨?_,?_⟩⟩,λi hi=>dg⟩
  ·have:=pT (f:=f) (g:=g) (bd:=bd) (x:=x) (y:=y) (w:=w) (hh:=hh) (c:=c) hW hH hc 0 (cy-y).toNat λj _ _ p _ _=>dg
   rw[aZ]at this;exact this
  ·have:=pT (f:=f) (g:=g) (bd:=bd) (x:=x) (y:=y) (w:=w) (hh:=hh) (c:=c) hW hH hc ((cy-y).toNat+cb.toNat) (hh.toNat-((cy-y).toNat+cb.toNat)) λj _ _ p _ _=>dg
   grind
  ·have:=mS (f:=f) (g:=g) (bd:=bd) (x:=x) (y:=y) (w:=w) (hh:=hh) (c:=c) hW hH hc (cy+j) 0 (cx-x).toNat λj _ _=>dg
   rw[aZ]at this;exact this
  ·have:=mS (f:=f) (g:=g) (bd:=bd) (x:=x) (y:=y) (w:=w) (hh:=hh) (c:=c) hW hH hc (cy+j) ((cx-x).toNat+ca.toNat) (w.toNat-((cx-x).toNat+ca.toNat)) λj _ _=>dg
   grind
 ·rw[if_pos dg];dsimp only;refine⟨0,0,dg,dg,dg,λc=>rfl,λc=>?_,λj C=>dg,λi hi=>dg⟩;have:=pT (f:=f) (g:=g) (bd:=bd) (x:=x) (y:=y) (w:=w) (hh:=hh) (c:=c) hW hH hc 0 hh.toNat λj _ _ p _ _=>dg
  grind
/--A row that d N seen. -/
theorem Jq(hW:1<=W/\W<=400)(hH:1<=H/\H<=400)(hc:pu cx cy ca cb){p q d:Int}{t:ByteArray}(h:q<cy\/cy+cb<=q):eT W H c p q t d f g bd cx cy ca cb=c:=by
 by_cases e:¬(d=1\/d=2)\/q<0\/(H:Int)<=q\/p< -1\/(W:Int)<=p;·grind[rA]
 have a:=de (W:=W) (H:=H) dg dg p q d 1 cx cy ca cb;unfold eT vy;generalize cj W H p q d 1 cx cy ca cb=z at a⊢;obtain⟨l,t,u,v⟩:=z;simp only at a⊢;rw[if_pos dg];refine fR (λi=>?_);have j:=a.l0;have t0:=a.t0;have m:=(a.mem l t).1 dg;rw[km,eY (n:=cy) (by have:=hc.y;omega),cN (n:=cb) (by have:=hc.b;omega),eY (n:=q) dg]at m;omega
theorem MY(hW:1<=W/\W<=400)(hH:1<=H/\H<=400)(hc:pu cx cy ca cb){q:Int}(h:q<cy\/cy+cb<=q)(l:List (List UInt8×Int))(x:Int):wrF W H f g bd cx cy ca cb q l x c=c:=
 sA W H f g bd cx cy ca cb (P:=λd=>d=c) q l x c (λz _ x d hd=>by grind[Jq]) rfl
/--A e,as the a i it. -/
theorem MZ(hW:1<=W/\W<=400)(hH:1<=H/\H<=400)(hc:pu cx cy ca cb)(q:Int)(s:List UInt8):wrL W H f g bd cx cy ca cb x q s c=wrF W H f g bd cx cy ca cb q (aG (ak s)) x c:=by grind[wrL,MY]
end
end Go.Proofs.YtaanagpadfcmlaaGreatDoor
namespace Go.Proofs.YtaanagpadfcmlaaGreatDoor
open Go.RowKit Go.Sort Go.Proofs.Tryz
set_option linter.all false
set_option maxRecDepth 100000 in
set_option maxHeartbeats 8000000 in
theorem Qb(x y w h p q:Int)(U:World)(G:-1000000000000<=x/\x<=1000000000000)(hy:-1000000000000<=y/\y<=1000000000000)(F:0<=w/\w<=100000)(hh:0<=h/\h<=100000):
 Cw 40 #[.agg #[Iq x,Iq y,Iq w,Iq h],Iq p,Iq q] U λe n=>∃z,e=Rw (Iq z)/\(0<z↔(p=x\/p=x+w-1\/q=y\/q=y+h-1))/\Hid (Bt U n):=by
 have t:IntKind.i64.wrap (x+w)=x+w:=IntWalk.i64_in _ dg;have C:IntKind.i64.wrap (x+w-1)=x+w-1:=IntWalk.i64_in _ dg;have D:IntKind.i64.wrap (y+h)=y+h:=IntWalk.i64_in _ dg;have E:IntKind.i64.wrap (y+h-1)=y+h-1:=IntWalk.i64_in _ dg;obtain⟨A,o⟩:=ad U.heap.size;obtain⟨j,l⟩:=ad (U.alloc (.cells #[Iq x,Iq y,Iq w,Iq h] 101));have m:Hid (Bt U j):=by rw[<-l];exact((Gr.refl U).alloc _).below
 have i:j.heap[A]?=some (.cells #[Iq x,Iq y,Iq w,Iq h] 101 (0,0)):=by rw[<-l,<-o];exact heap_alloc_new _ _
 have I:j.cell? (aj A 0)=some (Iq x):=by rw[Lib.cell_of_heap i];rfl
 have J:j.cell? (aj A 1)=some (Iq y):=by rw[Lib.cell_of_heap i];rfl
 have L:j.cell? (aj A 2)=some (Iq w):=by rw[Lib.cell_of_heap i];rfl
 have N:j.cell? (aj A 3)=some (Iq h):=by rw[Lib.cell_of_heap i];rfl
 clear i;obtain⟨a,r⟩:=ad (p==x);obtain⟨b,s⟩:=ad (p==x+w-1);obtain⟨c,hc⟩:=ad (q==y);obtain⟨d,hd⟩:=ad (q==y+h-1);cases a<;>cases b<;>cases c<;>cases d;all_goals go_enter func40,ntmps40;go_wp2;go_ret;refine⟨_,rfl,?_,m⟩;simp only[beq_iff_eq,beq_eq_false_iff_ne,ne_eq]at r s hc hd;omega
set_option maxRecDepth 100000 in
set_option maxHeartbeats 8000000 in
theorem bordered_any(kd:Int)(ab:Nat)(t:ByteArray)(kv:Value)(up a6 x y w h:Int)(U:World)(n:U.cell? (aj ab 6)=some (Iq a6)):
 Calls prog 38 #[KN kd ab t kv up,.agg #[Iq x,Iq y,Iq w,Iq h]] U λe s=>e=.returned (.bool (decide (kd=3/\a6=1/\2<=w/\2<=h)))/\Hid (Below U.heap.size U s):=by
 unfold KN;obtain⟨A,o⟩:=ad U.heap.size;obtain⟨d,i⟩:=ad ((U.alloc (.cells #[Iq kd,Sq ab 12 12,.string t,kv,Iq up] 100)).alloc (.cells #[Iq x,Iq y,Iq w,Iq h] 101));have m:Hid (Below U.heap.size U d):=by rw[<-i];exact(((Gr.refl U).alloc _).alloc _).below
 have l:d.heap[A]?=some (.cells #[Iq kd,Sq ab 12 12,.string t,kv,Iq up] 100 (0,0)):=by rw[<-i,<-o,cK _ _ _ (by simp_all)];exact heap_alloc_new _ _
 have j:d.heap[A+1]?=some (.cells #[Iq x,Iq y,Iq w,Iq h] 101 (0,0)):=by rw[<-i,<-o,<-World.size_alloc];exact heap_alloc_new _ _
 have I:d.cell? (aj A 0)=some (Iq kd):=by rw[Lib.cell_of_heap l];rfl
 have J:d.cell? (aj A 1)=some (Sq ab 12 12):=by rw[Lib.cell_of_heap l];rfl
 have E:d.cell? (aj (A+1) 2)=some (Iq w):=by rw[Lib.cell_of_heap j];rfl
 have F:d.cell? (aj (A+1) 3)=some (Iq h):=by rw[Lib.cell_of_heap j];rfl
 have G:=an m n;clear l j n;obtain⟨a,z⟩:=ad (kd==3);obtain⟨b,C⟩:=ad (a6==1);obtain⟨r,p⟩:=ad (decide (kd=3/\a6=1/\2<=w/\2<=h));have q:r=(a&&(b&&(decide (2<=w)&&decide (2<=h)))):=by rw[<-p,<-z,<-C];simp only[Bool.decide_and];rfl
 rw[p];rw[o]at m⊢;clear p;cases a<;>cases b<;>by_cases D:2<=w<;>by_cases hh:2<=h;all_goals simp only[D,hh,decide_true,decide_false,Bool.and_true,Bool.and_false]at q;subst q;go_enter func38,ntmps38;go_wp2;go_ret;simp_all
end Go.Proofs.YtaanagpadfcmlaaGreatDoor
namespace Go.Proofs.YtaanagpadfcmlaaGreatDoor
open Go.RowKit Go.Sort Go.Proofs.Tryz
set_option linter.all false
set_option maxRecDepth 100000 in
set_option maxHeartbeats 8000000 in
theorem redge_any(x y w h p q:Int)(U:World)(F:-1000000000000<=x/\x<=1000000000000)(hy:-1000000000000<=y/\y<=1000000000000)(E:0<=w/\w<=100000)(hh:0<=h/\h<=100000):
 Cw 40 #[.agg #[Iq x,Iq y,Iq w,Iq h],Iq p,Iq q] U λe n=>e=Rw (Iq (sJ x y w h p q))/\Hid (Bt U n):=by
 have t:IntKind.i64.wrap (x+w)=x+w:=IntWalk.i64_in _ dg;have z:IntKind.i64.wrap (x+w-1)=x+w-1:=IntWalk.i64_in _ dg;have C:IntKind.i64.wrap (y+h)=y+h:=IntWalk.i64_in _ dg;have D:IntKind.i64.wrap (y+h-1)=y+h-1:=IntWalk.i64_in _ dg;obtain⟨A,o⟩:=ad U.heap.size;obtain⟨j,l⟩:=ad (U.alloc (.cells #[Iq x,Iq y,Iq w,Iq h] 101));have m:Hid (Bt U j):=by rw[<-l];exact((Gr.refl U).alloc _).below
 have i:j.heap[A]?=some (.cells #[Iq x,Iq y,Iq w,Iq h] 101 (0,0)):=by rw[<-l,<-o];exact heap_alloc_new _ _
 have G:j.cell? (aj A 0)=some (Iq x):=by rw[Lib.cell_of_heap i];rfl
 have I:j.cell? (aj A 1)=some (Iq y):=by rw[Lib.cell_of_heap i];rfl
 have J:j.cell? (aj A 2)=some (Iq w):=by rw[Lib.cell_of_heap i];rfl
 have L:j.cell? (aj A 3)=some (Iq h):=by rw[Lib.cell_of_heap i];rfl
 clear i;obtain⟨a,r⟩:=ad (p==x);obtain⟨b,s⟩:=ad (p==x+w-1);obtain⟨c,hc⟩:=ad (q==y);obtain⟨d,hd⟩:=ad (q==y+h-1);cases a<;>cases b<;>cases c<;>cases d;all_goals go_enter func40,ntmps40;go_wp2;go_ret;refine⟨?_,m⟩;simp only[beq_iff_eq,beq_eq_false_iff_ne,ne_eq]at r s hc hd;unfold sJ;(repeat' split)<;>first|rfl|(exfalso;omega)
section
variable{K M cap W H An As ab pb k:Nat} {kd up a6 a7 a8 b0 x y w hh f g bd cx cy ca cb:Int} {tx:ByteArray} {kv:Value} {U v v':World} {c c':Nat→Nat→Ce}
/--Eo Mg reads,and the Sb. -/
structure Sd(K M cap W H An As ab pb k:Nat)(kd up a6 a7 a8 b0 x y w hh f g bd cx cy ca cb:Int)(tx:ByteArray)(kv:Value)(U v:World)(c:Nat->Nat->Ce):Prop where
 nd:v.heap[An]?=some (.cells #[Iq kd,Sq ab 12 12,.string tx,kv,Iq up] 100 (0,0))
 rc:v.heap[An+1]?=some (.cells #[Iq x,Iq y,Iq w,Iq hh] 101 (0,0))
 st:v.heap[As]?=some (.cells #[Iq f,Iq g,Iq bd] 75 (0,0))
 at_:v.cell? (aj ab 6)=some (Iq a6)/\v.cell? (aj ab 7)=some (Iq a7)/\v.cell? (aj ab 8)=some (Iq a8)/\v.cell? (aj ab 10)=some (Iq b0)
 cl:v.cell? (aj pb (k*10+4))=some (Iq cx)/\v.cell? (aj pb (k*10+5))=some (Iq cy)/\v.cell? (aj pb (k*10+6))=some (Iq ca)/\v.cell? (aj pb (k*10+7))=some (Iq cb)
 lt:ab<v.heap.size/\pb<v.heap.size
 cs:CS 71 77 v K M cap W H c
 pa:PAll W H c
 ch:bp M U v
 ne:An≠M/\An+1≠M/\As≠M/\ab≠M/\pb≠M
theorem Sd.blk(h:Sd K M cap W H An As ab pb k kd up a6 a7 a8 b0 x y w hh f g bd cx cy ca cb tx kv U v c)(e:∀b,b=An\/b=An+1\/b=As\/b=ab\/b=pb\/b=K->v'.heap[b]?=v.heap[b]?)(j:v.heap.size<=v'.heap.size)(q:Cv 77 v' M W H c')(hp:PAll W H c')(hc:bp M U v'):Sd K M cap W H An As ab pb k kd up a6 a7 a8 b0 x y w hh f g bd cx cy ca cb tx kv U v' c':=by obtain⟨l,m,n,p⟩:=h.at_;obtain⟨c1,c2,c3,c4⟩:=h.cl;have d:∀o,v'.cell? (aj ab o)=v.cell? (aj ab o):=λo=>bf (a:=(aj ab o)) (e ab rn);have i:∀o,v'.cell? (aj pb o)=v.cell? (aj pb o):=λo=>bf (a:=(aj pb o)) (e pb rn);exact⟨(e An rn).trans h.nd,(e _ rn).trans h.rc,(e As rn).trans h.st,⟨(d _).trans l,(d _).trans m,(d _).trans n,(d _).trans p⟩,⟨(i _).trans c1,(i _).trans c2,(i _).trans c3,(i _).trans c4⟩,⟨zz007 h.lt.1 j,zz007 h.lt.2 j⟩,⟨(e K rn).trans h.cs.kb,q,h.cs.ne,h.cs.hc⟩,hp,hc,h.ne⟩
theorem Sd.lts(h:Sd K M cap W H An As ab pb k kd up a6 a7 a8 b0 x y w hh f g bd cx cy ca cb tx kv U v c):∀b,b=An\/b=An+1\/b=As\/b=ab\/b=pb\/b=K->b<v.heap.size/\b≠M:=by
 have a:∀{b o},v.heap[b]?=some o->b<v.heap.size:=λe=>(aD.1 e).1;obtain⟨i,j,l,m,n⟩:=h.ne;intro b d;rcases d with e|e|e|e|e|e<;>rw[e];·exact⟨a h.nd,i⟩
 ·exact⟨a h.rc,j⟩
 ·exact⟨a h.st,l⟩
 ·exact⟨h.lt.1,m⟩
 ·exact⟨h.lt.2,n⟩
 ·exact⟨h.cs.klt,h.cs.ne⟩
theorem Sd.put(h:Sd K M cap W H An As ab pb k kd up a6 a7 a8 b0 x y w hh f g bd cx cy ca cb tx kv U v c)(d:Cv 77 v' M W H c')(hc:bp M v v')(hp:PAll W H c'):Sd K M cap W H An As ab pb k kd up a6 a7 a8 b0 x y w hh f g bd cx cy ca cb tx kv U v' c':=
 h.blk (λb a=>hc.block b (h.lts b a).1 (h.lts b a).2) hc.size d hp (h.ch.trans hc)
theorem Sd.bel(h:Sd K M cap W H An As ab pb k kd up a6 a7 a8 b0 x y w hh f g bd cx cy ca cb tx kv U v c)(e:Bt v v'):Sd K M cap W H An As ab pb k kd up a6 a7 a8 b0 x y w hh f g bd cx cy ca cb tx kv U v' c:=
 h.put (h.cs.cv.keep (e.block M h.cs.cv.lt)) (bp.below e) h.pa
/--A d of a. -/
theorem Sd.oth(h:Sd K M cap W H An As ab pb k kd up a6 a7 a8 b0 x y w hh f g bd cx cy ca cb tx kv U v c){B:Nat}(a:∀b,b=An\/b=An+1\/b=As\/b=ab\/b=pb\/b=K->b<B)(d:M<B)(e:U.heap.size<=B)(o:Nat)(u:Value):Sd K M cap W H An As ab pb k kd up a6 a7 a8 b0 x y w hh f g bd cx cy ca cb tx kv U (v.setCell (aj B o) u) c:=
 h.blk (λb i=>bK v (aj B o) u b (Ai (a b i))) rn (h.cs.cv.keep (bK v (aj B o) u M (Ai d))) h.pa (h.ch.set (.inr e) o u)
theorem Sd.cell(h:Sd K M cap W H An As ab pb k kd up a6 a7 a8 b0 x y w hh f g bd cx cy ca cb tx kv U v c):(v.cell? (aj An 0)=some (Iq kd)/\v.cell? (aj An 1)=some (Sq ab 12 12)/\v.cell? (aj An 2)=some (.string tx)/\v.cell? (aj An 3)=some kv/\v.cell? (aj An 4)=some (Iq up))/\(v.cell? (aj (An+1) 0)=some (Iq x)/\v.cell? (aj (An+1) 1)=some (Iq y)/\v.cell? (aj (An+1) 2)=some (Iq w)/\v.cell? (aj (An+1) 3)=some (Iq hh))/\(v.cell? (aj As 0)=some (Iq f)/\v.cell? (aj As 1)=some (Iq g)/\v.cell? (aj As 2)=some (Iq bd)):=by
 refine⟨⟨?_,?_,?_,?_,?_⟩,⟨?_,?_,?_,?_⟩,?_,?_,?_⟩;all_goals first
  |(rw[Lib.cell_of_heap h.nd];rfl)
  |(rw[Lib.cell_of_heap h.rc];rfl)
  |(rw[Lib.cell_of_heap h.st];rfl)
theorem Sd.fil(h:Sd K M cap W H An As ab pb k kd up a6 a7 a8 b0 x y w hh f g bd cx cy ca cb tx kv U v c)(hW:1<=W/\W<=400)(hH:1<=H/\H<=400):Cw 37 #[Pq K,.agg #[Iq x,Iq y,Iq w,Iq hh],.agg #[Iq f,Iq g,Iq bd],.agg #[Iq cx,Iq cy,Iq ca,Iq cb]] v λe v'=>e=Rw (.tuple #[])/\Hid (Sd K M cap W H An As ab pb k kd up a6 a7 a8 b0 x y w hh f g bd cx cy ca cb tx kv U v' (ir W H c x y w hh f g bd cx cy ca cb))/\Hid (v.heap.size<=v'.heap.size):=
 (FQ v h.cs hW hH h.pa x y w hh f g bd cx cy ca cb).mono λe v' q=>⟨q.1,h.put q.2.1 q.2.2 (h.pa.filX hW hH _ _ _ _ _ _ _ _ _ _ _),q.2.2.size⟩
theorem Sd.pt(h:Sd K M cap W H An As ab pb k kd up a6 a7 a8 b0 x y w hh f g bd cx cy ca cb tx kv U v c)(hW:1<=W/\W<=400)(hH:1<=H/\H<=400)(p r:Int)(a:ByteArray)(d:Int):Cw 41 #[Pq K,Iq p,Iq r,.agg #[.string a,Iq d],.agg #[Iq f,Iq g,Iq bd],.agg #[Iq cx,Iq cy,Iq ca,Iq cb]] v λe v'=>e=Rw (.tuple #[])/\Hid (Sd K M cap W H An As ab pb k kd up a6 a7 a8 b0 x y w hh f g bd cx cy ca cb tx kv U v' (eT W H c p r a d f g bd cx cy ca cb))/\Hid (bp M v v'):=
 (yE v h.cs hW hH h.pa p r a d f g bd cx cy ca cb).mono λe v' q=>⟨q.1,h.put q.2.1 q.2.2 (h.pa.putX hW hH _ _ _ _ _ _ _ _ _ _ _),q.2.2⟩
end
theorem Og(x y w h p q:Int):0<=sJ x y w h p q/\sJ x y w h p q<=65535:=by unfold sJ;(repeat' split)<;>omega
theorem vE(r:Int)(h:0<=r/\r<=65535)(w:World):Cw 42 #[Iq r] w λe w'=>e=Rw (.string ⟨(enc [r]).toArray⟩)/\Hid (Bt w w'):=
 (iC r w).mono λe w' q=>⟨by rw[q.1];simp[enc],q.2⟩
theorem rrcap_any(i j h d n a m l:Int)(w:World):Cw 39 #[.agg #[Iq i,Iq j,Iq h,Iq d],.agg #[Iq n,Iq a,Iq m,Iq l]] w λe w'=>e=Rw (.agg #[Iq (d_ i j h d n a m l).1,Iq (d_ i j h d n a m l).2.1,Iq (d_ i j h d n a m l).2.2.1,Iq (d_ i j h d n a m l).2.2.2])/\Hid (Bt w w'):=
 (rB i j h d n a m l w).mono λe w' q=>⟨by rw[q.1,qw];rfl,q.2.below⟩
theorem DW(W H:Nat)(f g bd cx cy ca cb x w a y:Int)(c:Nat->Nat->Ce):txK W H f g bd cx cy ca cb x w a [] y c=c:=rfl
theorem FX(t:List UInt8)(a w hh:Int)(e:t.length<=100000)(h:0<=w/\w<=100000):∀s∈lL t a w hh,s.length<=3000000:=λs d=>by
 unfold lL at d;split at d;·cases d
 ·exact yZ t a w e h.2 s (iH d)
theorem wO(s:List UInt8):(aG (ak s)).length<=s.length:=aF (bu _) (aX _)
theorem K5(s:List UInt8)(w i:Int)(h:s.length<=3000000):(iJ s (ai (aG (ak s))) w i).length<=100000000:=by have h1:=wE s (ai (aG (ak s))) w i;have j:=bB (aG (ak s)) (cE _) (aG (ak s)).length;rw[io]at j;have m:=wO s;omega
/--d,to l read,in a e behind M. -/
def Rh(M:Nat)(W:World)(v:Value)(l:List (List UInt8×Int)):Prop:=∃p c,v=.slice p l.length c/\∀j (hj:j<l.length),∃b,p=some (aj b 0)/\M<b/\b<W.heap.size/\W.cell? (aj b (j*2))=some (.string ⟨(l[j]).1.toArray⟩)/\W.cell? (aj b (j*2+1))=some (Iq (l[j]).2)
theorem Jw{M:Nat}(T:List UInt8)(u:World)(hu:M<u.heap.size)(D:T.length<=100000000):Cw 44 #[.string ⟨T.toArray⟩] u λe p=>∃v,e=Rw v/\Hid (Rh M p v (aG (ak T)))/\Hid (Bt u p):=by
 refine(rClusters_any ⟨T.toArray⟩ u (by show T.toArray.size<=_;simp;omega)).mono ?_;rintro e p ⟨v,h1,l,z⟩;have s:(⟨T.toArray⟩:ByteArray).data.toList=T:=rn
 rw[s]at l;refine⟨v,h1,?_,z⟩;rcases cU l with⟨rfl,t⟩|⟨n,i,rfl,A,C,_⟩;·exact⟨none,0,by rw[t],λj o=>dg⟩
 ·refine⟨_,i,rfl,λj o=>⟨n,rfl,zz007 hu A,C,?_,?_⟩⟩;·have m:=l.cells (g:=n) rfl (j*2) _ (nT _ j o).1;rw[<-m];congr 1;unfold Addr.add;split<;>simp_all
  ·have m:=l.cells (g:=n) rfl (j*2+1) _ (nT _ j o).2;rw[<-m];congr 1;unfold Addr.add;split<;>simp_all
/--q a r d,as the h d it. -/
theorem Mh{W H:Nat}{f g bd cx cy ca cb kd a6 a7 a8 b0 x y w hh:Int}{t:List UInt8}{c:Nat->Nat->Ce}(hW:1<=W/\W<=400)(hH:1<=H/\H<=400)(hc:pu cx cy ca cb):pnF W H f g bd cx cy ca cb kd a6 a7 a8 b0 t x y w hh c=if kd=5 then txK W H f g bd cx cy ca cb x w a7 (lL t a8 w hh) y (if decide (kd=3/\a6=1/\2<=w/\2<=hh)=true then tI W H f g bd cx cy ca cb x y w hh (if 0<b0 then ir W H c x y w hh f g bd cx cy ca cb else c) hh.toNat else(if 0<b0 then ir W H c x y w hh f g bd cx cy ca cb else c))else(if decide (kd=3/\a6=1/\2<=w/\2<=hh)=true then tI W H f g bd cx cy ca cb x y w hh (if 0<b0 then ir W H c x y w hh f g bd cx cy ca cb else c) hh.toNat else(if 0<b0 then ir W H c x y w hh f g bd cx cy ca cb else c)):=by
 unfold pnF;generalize(if 0<b0 then ir W H c x y w hh f g bd cx cy ca cb else c)=c1;by_cases a:kd=3/\a6=1/\2<=w/\2<=hh;·rw[if_pos a,if_neg dg,decide_eq_true a,if_pos rfl,N8 hW hH hc a.2.2.1 a.2.2.2]
 ·rw[if_neg a,decide_eq_false a];simp only[Aq,if_false];by_cases d:kd=5
  ·rw[if_pos d];unfold lL;by_cases e:1<=w;·rw[if_pos ⟨d,e⟩,if_neg dg]
   ·rw[if_neg dg,if_pos dg,DW]
  ·rw[if_neg d,if_neg dg]
theorem D5{v:World}{B:Nat}{T:TypeId}{a b c d:Int}(h:v.heap[B]?=some (.cells #[Iq a,Iq b,Iq c,Iq d] T (0,0))):v.cell? (aj B 0)=some (Iq a)/\v.cell? (aj B 1)=some (Iq b)/\v.cell? (aj B 2)=some (Iq c)/\v.cell? (aj B 3)=some (Iq d)/\∀j,v.frozen? (aj B j)=false:=by refine⟨?_,?_,?_,?_,λj=>frozen_of_row _ _ _ _ _ h⟩<;>simp[World.cell?,h]
section
variable{K M cap W H:Nat} {c:Nat→Nat→Ce}
set_option maxRecDepth 100000 in
set_option maxHeartbeats 16000000 in
theorem yi{L:List Nd}(g gc pb k:Nat)(hk:k<L.length)(P:Nat->Nat->Int)(U0 U:World)(hN:ip U0 g L.length (aa L))(hR:U0.rowIs pb 103 (L.length*10) (js P))(hU:Bt U0 U)(hM:U0.heap.size<=M)(hup:∀i:Nat,i<L.length->(aa L i).up<i)(Rb:(aa L k).text.length<=4000)(Ux:L.length<=100)(hC:pu (P k 4) (P k 5) (P k 6) (P k 7))(hr:O9 (P k 0) (P k 1) (P k 2) (P k 3) (P k 4) (P k 5) (P k 6) (P k 7))(hw:0<=P k 2/\P k 2<=100000)(hh:0<=P k 3/\P k 3<=100000)(hx:-100000000000<=P k 0/\P k 0<=100000000000)(hy:-100000000000<=P k 1/\P k 1<=100000000000)(h:CS 71 77 U K M cap W H c)(hW:1<=W/\W<=400)(hH:1<=H/\H<=400)(hp:PAll W H c):
 Cw 17 #[Pq K,Sq g L.length gc,Sq pb L.length L.length,Iq (k:Int)] U λe U'=>e=Rw (.tuple #[])/\Hid (Cv 77 U' M W H (pnF W H (eZ L k).1 (eZ L k).2.1 (eZ L k).2.2 (P k 4) (P k 5) (P k 6) (P k 7) (aa L k).kind (ap (aa L k) 6) (ap (aa L k) 7) (ap (aa L k) 8) (ap (aa L k) 10) (aa L k).text (P k 0) (P k 1) (P k 2) (P k 3) c))/\Hid (bp M U U'):=by
 have Qm:prog.follows .mixedOrders=true:=ns;have F:Hid ((1<=W/\W<=400)/\(1<=H/\H<=400)):=⟨hW,hH⟩;have QS:=h.cv.lt;obtain⟨ab,kv,hn⟩:=hN.nd k hk;obtain⟨kp,kc,Om,-⟩:=hn.kids;subst Om;have UN:(k:Int)<(L.length:Int):=dg;have J:=λt ht=>aS hR hk (t:=t) ht;have zL:Hid (∀u,Bt U0 u->(u.cell? (aj ab 6)=some (Iq (ap (aa L k) 6))/\u.cell? (aj ab 7)=some (Iq (ap (aa L k) 7))/\u.cell? (aj ab 8)=some (Iq (ap (aa L k) 8))/\u.cell? (aj ab 10)=some (Iq (ap (aa L k) 10)))/\(u.cell? (aj pb (k*10+4))=some (Iq (P k 4))/\u.cell? (aj pb (k*10+5))=some (Iq (P k 5))/\u.cell? (aj pb (k*10+6))=some (Iq (P k 6))/\u.cell? (aj pb (k*10+7))=some (Iq (P k 7)))):=λu hu=>
  ⟨⟨an hu (hn.att 6 dg),an hu (hn.att 7 dg),an hu (hn.att 8 dg),an hu (hn.att 10 dg)⟩,an hu (J 4 dg),an hu (J 5 dg),an hu (J 6 dg),an hu (J 7 dg)⟩;have c0:=an hU hn.c0;have c1:=an hU hn.c1;have c2:=an hU hn.c2;have c3:=an hU hn.c3;have c4:=an hU hn.c4;have Qt:(⟨(aa L k).text.toArray⟩:ByteArray).size<=4000:=by show(aa L k).text.toArray.size<=_;rw[jh];exact Rb
 have Nw:(⟨(aa L k).text.toArray⟩:ByteArray).data.toList=(aa L k).text:=rn;have T7:Hid (ab<U0.heap.size/\pb<U0.heap.size):=⟨hn.lab,hR.lt⟩;obtain⟨An,zH⟩:=ad U.heap.size;obtain⟨W1,zm⟩:=ad (U.alloc (.cells #[Iq ((aa L k).kind:Int),Sq ab 12 12,.string ⟨(aa L k).text.toArray⟩,.slice kp (aa L k).kids.length kc,Iq (aa L k).up] 100));have N:Bt U W1:=by rw[<-zm];exact((Gr.refl U).alloc _).below
 have zx:=hU.trans (N.mono hU.size);have zT:W1.heap.size=An+1:=by rw[<-zm,au,zH]
 have p0:W1.cell? (aj pb (k*10))=some (Iq (P k 0)):=an zx (J 0 dg);have p1:=an zx (J 1 dg);have p2:=an zx (J 2 dg);have p3:=an zx (J 3 dg);obtain⟨W2,zI⟩:=ad (W1.alloc (.cells #[Iq (P k 0),Iq (P k 1),Iq (P k 2),Iq (P k 3)] 101));have zV:Bt U W2:=by rw[<-zI,<-zm];exact(((Gr.refl U).alloc _).alloc _).below
 have zS:=hU.trans (zV.mono hU.size);have zh:Hid (W2.heap[An]?=some (.cells #[Iq ((aa L k).kind:Int),Sq ab 12 12,.string ⟨(aa L k).text.toArray⟩,.slice kp (aa L k).kids.length kc,Iq (aa L k).up] 100 (0,0))):=by show _=_;rw[<-zI,cK _ _ _ (by rw[zT];omega),<-zm,<-zH];exact heap_alloc_new _ _
 have zR:Hid (W2.heap[An+1]?=some (.cells #[Iq (P k 0),Iq (P k 1),Iq (P k 2),Iq (P k 3)] 101 (0,0))):=by show _=_;rw[<-zI,<-zT];exact heap_alloc_new _ _
 have ST:Hid (Cw 36 #[Sq g L.length gc,Iq (k:Int)] W2 λe U'=>e=Rw (.agg #[Iq (eZ L k).1,Iq (eZ L k).2.1,Iq (eZ L k).2.2])/\Hid (Bt W2 U')):=o9 hup Ux g gc (k+1) k dg hk W2 (hN.below zS);have Q:=qH zV;have zq:=qH zS;have Ui:=qH hU;have Ww:=qH hM;have Wx:Hid (M<An):=by rw[<-zH];exact QS
 have TY:=qH h;have Uc:=qH hp;clear hn J hR hN N zx zV zS hup Rb Ux hk hU hM h hp;generalize(aa L k).up=up at*;generalize(aa L k).kids.length=kl at*;generalize((aa L k).kind:Int)=kd at*;generalize ap (aa L k) 6=a6 at*;generalize ap (aa L k) 7=a7 at*;generalize ap (aa L k) 8=a8 at*;generalize ap (aa L k) 10=b0 at*;generalize(eZ L k).1=f at*;generalize(eZ L k).2.1=l at*;generalize(eZ L k).2.2=bd at*;obtain⟨tx,Qu⟩:=ad (⟨(aa L k).text.toArray⟩:ByteArray);rw[Qu]at Qt Nw c2 zm zh;rw[<-Nw];clear Qu Nw;generalize P k 0=x at*;generalize P k 1=y at*;generalize P k 2=w at*;generalize P k 3=hi at*;generalize P k 4=cx at*;generalize P k 5=cy at*;generalize P k 6=ca at*;generalize P k 7=cb at*;have HC:=qH hC;have HR:=qH hr;have Ug:=qH Qt;have zC:Hid ((0<=w/\w<=100000)/\(0<=hi/\hi<=100000)/\(-100000000000<=x/\x<=100000000000)/\(-100000000000<=y/\y<=100000000000)):=⟨hw,hh,hx,hy⟩;clear hC hr Qt hw hh hx hy hW hH QS;go_enter func17,ntmps17;go_upto_if 36 with(go_at_call 36;refine ST.mono ?_;rintro e W3 ⟨rfl,ze⟩;obtain⟨W4,zU⟩:=ad (W3.alloc (.cells #[Iq f,Iq l,Iq bd] 75));obtain⟨As,Uw⟩:=ad W3.heap.size;have zB:Hid (Bt W2 W4):=(by rw[<-zU];exact ze.alloc ze.size _);have I:W4.cell? (aj An 1)=some (Sq ab 12 12):=(zB.cell (p:=(aj An 1)) (aD.1 zh).1).trans (by rw[Lib.cell_of_heap zh.out];rfl);have Rf:=(zL W4 (zq.trans (zB.mono zq.size))).1.2.2.2);obtain⟨Z,hZ⟩:∃Z:World->(Nat->Nat->Ce)->Prop,Z=λv c=>Sd K M cap W H An As ab pb k kd up a6 a7 a8 b0 x y w hi f l bd cx cy ca cb tx (.slice kp kl kc) U v c:=⟨_,rfl⟩;have zj:Hid (Z W4 c):=by rw[hZ];have hb:=zB.out;have hl:=Q.size;have h0:=Ui.size;have SU:=(aD.1 zR).1;obtain⟨q1,q2⟩:=zL W4 (zq.trans (hb.mono zq.size));obtain⟨l1,l2⟩:=T7.out;have _H:U0.heap.size<=M:=Ww;have _I:M<An:=Wx;have hs3:=ze.size;have XB:=hb.size;have XV:=(TY.below Q).below hb;exact⟨(hb.block An (aD.1 zh).1).trans zh,(hb.block _ SU).trans zR,by rw[<-zU,<-Uw];exact heap_alloc_new _ _,q1,q2,⟨dg,dg⟩,XV,Uc,bp.below (Q.trans (hb.mono hl)),⟨dg,dg,dg,dg,dg⟩⟩
 have ZB:Hid (∀v v' c,Z v c->Bt v v'->Z v' c):=by rw[hZ];exact λv v' c h hb=>h.bel hb
 have ZO:Hid (∀v c,Z v c->∀B,W4.heap.size<=B->∀o u,Z (v.setCell (aj B o) u) c):=by have h4:=zj.out;rw[hZ]at h4⊢;exact λv c h B hB o u=>h.oth (λb hb=>zz007 (h4.lts b hb).1 hB) (zz007 h4.cs.cv.lt hB) (aF h4.ch.size hB) o u
 have ZD:Hid (∀v c,Z v c->Z v.drew c):=λv c h=>ZB v _ c h (Gr.refl v).drew.below;have ZN:Hid (∀v c,Z v c->(v.cell? (aj An 0)=some (Iq kd)/\v.cell? (aj An 1)=some (Sq ab 12 12)/\v.cell? (aj An 2)=some (.string tx)/\v.cell? (aj An 3)=some (.slice kp kl kc)/\v.cell? (aj An 4)=some (Iq up))/\v.cell? (aj ab 6)=some (Iq a6)/\v.cell? (aj ab 7)=some (Iq a7)/\v.cell? (aj ab 8)=some (Iq a8)):=by rw[hZ];exact λv c h=>⟨h.cell.1,h.at_.1,h.at_.2.1,h.at_.2.2.1⟩
 have V:Hid (∀v c,Z v c->v.cell? (aj (An+1) 0)=some (Iq x)/\v.cell? (aj (An+1) 1)=some (Iq y)/\v.cell? (aj (An+1) 2)=some (Iq w)/\v.cell? (aj (An+1) 3)=some (Iq hi)):=by rw[hZ];exact λv c h=>h.cell.2.1
 have ZS:Hid (∀v c,Z v c->(v.cell? (aj As 0)=some (Iq f)/\v.cell? (aj As 1)=some (Iq l)/\v.cell? (aj As 2)=some (Iq bd))/\v.cell? (aj pb (k*10+4))=some (Iq cx)/\v.cell? (aj pb (k*10+5))=some (Iq cy)/\v.cell? (aj pb (k*10+6))=some (Iq ca)/\v.cell? (aj pb (k*10+7))=some (Iq cb)):=by rw[hZ];exact λv c h=>⟨h.cell.2.2,h.cl⟩
 have ZF:Hid (∀v c,Z v c->Cw 37 #[Pq K,.agg #[Iq x,Iq y,Iq w,Iq hi],.agg #[Iq f,Iq l,Iq bd],.agg #[Iq cx,Iq cy,Iq ca,Iq cb]] v λe v'=>e=Rw (.tuple #[])/\Hid (Z v' (ir W H c x y w hi f l bd cx cy ca cb))/\Hid (v.heap.size<=v'.heap.size)):=by rw[hZ];exact λv c h=>h.fil F.1 F.2
 have ZP:Hid (∀v c,Z v c->∀p r dR wd,Cw 41 #[Pq K,Iq p,Iq r,.agg #[.string dR,Iq wd],.agg #[Iq f,Iq l,Iq bd],.agg #[Iq cx,Iq cy,Iq ca,Iq cb]] v λe v'=>e=Rw (.tuple #[])/\Hid (Z v' (eT W H c p r dR wd f l bd cx cy ca cb))/\Hid (bp M v v')):=by rw[hZ];exact λv c h=>h.pt F.1 F.2
 have ZE:Hid (∀v c,Z v c->Cv 77 v M W H c/\bp M U v):=by rw[hZ];exact λv c h=>⟨h.cs.cv,h.ch⟩
 clear hZ zU Uw I Rf zB ze zh zR ST zL c0 c1 c2 c3 c4 p0 p1 p2 p3 Q zq Ui TY Uc T7 zm zI zH zT;go_cut[36]from 37 to 45 (λ_ wx=>∃c1,Hid (c1=if 0<b0 then ir W H c x y w hi f l bd cx cy ca cb else c)/\Hid (Z wx c1)/\Hid (W4.heap.size<=wx.heap.size));case first=>
  by_cases zn:0<b0;·have WI:=qH zn;have FI:=qH<|ZF _ _ (ZD _ _ zj);obtain⟨r0,r1,r2,r3⟩:=V _ _ zj;obtain⟨⟨C,I,O⟩,l0,l1,l2,l3⟩:=ZS _ _ zj;go_wp2_with fail;go_region_held(λW=>(W.cell? (aj (An+1) 0)=some (Iq x)/\W.cell? (aj (An+1) 1)=some (Iq y)/\W.cell? (aj (An+1) 2)=some (Iq w)/\W.cell? (aj (An+1) 3)=some (Iq hi))/\(W.cell? (aj As 0)=some (Iq f)/\W.cell? (aj As 1)=some (Iq l)/\W.cell? (aj As 2)=some (Iq bd))/\W.cell? (aj pb (k*10+4))=some (Iq cx)/\W.cell? (aj pb (k*10+5))=some (Iq cy)/\W.cell? (aj pb (k*10+6))=some (Iq ca)/\W.cell? (aj pb (k*10+7))=some (Iq cb)) (first|go_keep|exact⟨V _ _ G,(ZS _ _ G).1,(ZS _ _ G).2⟩) (first|(go_at_call 37;refine ag FI ?_;rintro e v5 ⟨rfl,G,Wr⟩));all_goals go_wp2_with fail;go_meet;exact⟨_,(if_pos WI.out).symm,G,Wr⟩
  ·have N:b0<=0:=dg
   have WE:=qH N;go_wp2_with fail;go_meet;exact⟨c,(if_neg (Int.not_lt.2 WE)).symm,zj,ae _⟩
 case rest=>
  obtain⟨c1,TW,zG,Ru⟩:=hcut;obtain⟨⟨n0,n1,n2,n3,n4⟩,n6,-,-⟩:=ZN _ _ zG;obtain⟨r0,r1,r2,r3⟩:=V _ _ zG;have BO:=qH<|bordered_any kd ab tx (.slice kp kl kc) up a6 x y w hi wc n6;unfold KN at BO;obtain⟨bb,zY⟩:=ad (decide (kd=3/\a6=1/\2<=w/\2<=hi));rw[zY]at BO;have zM:=qH zY;clear zj n6 zY;go_upto_if 48 with(go_at_call 38;refine BO.mono ?_;rintro e v2 ⟨rfl,Q⟩);have zv:=qH<|ZB _ _ _ zG Q;have T6:Hid (W4.heap.size<=v2.heap.size):=aF Ru Q.size;clear Q zG n0 n1 n2 n3 n4 r0 r1 r2 r3 BO;go_cut[11,12,13,14,48]from 49 to 96 (λ_ _ _ _ _ wx=>∃c2,Hid (c2=if bb=true then tI W H f l bd cx cy ca cb x y w hi c1 hi.toNat else c1)/\Hid (Z wx c2));case first=>
   cases bb;case true=>
    have zJ:kd=3/\a6=1/\2<=w/\2<=hi:=of_decide_eq_true zM;have CP:=qH<|rrcap_any x y w hi cx cy ca cb;obtain⟨j0,i0,EG⟩:=Oh (f:=f) (g:=l) (bd:=bd) (x:=x) (y:=y) F.1 F.2 HC HR ⟨zJ.2.2.1,zC.1.2⟩ ⟨zJ.2.2.2,zC.2.1.2⟩;generalize(d_ x y w hi cx cy ca cb).1=C at*;generalize(d_ x y w hi cx cy ca cb).2.1=I at*;generalize(d_ x y w hi cx cy ca cb).2.2.1=O at*;generalize(d_ x y w hi cx cy ca cb).2.2.2=s3 at*;have zD:=qH EG;have b2:=EG.n2;have b3:=EG.n3;have bl:=EG.lo;have ZI:=qH zJ;clear EG zJ;go_upto_region 6 with fail;go_cut[11]from 49 to 55 (λsv wx=>∃B,sv=Pq B/\Hid (wx.heap[B]?=some (.cells #[Iq C,Iq I,Iq O,Iq s3] 101 (0,0))/\M<B)/\Hid (Z wx c1));case first=>
     obtain⟨B,hB⟩:=ad v2.heap.size;obtain⟨W5,Pc⟩:=ad (v2.alloc (.cells #[Iq 0,Iq 0,Iq 0,Iq 0] 101));have G:Hid (Z W5.drew c1):=by rw[<-Pc];exact ZD _ _ (ZB _ _ _ zv ((Gr.refl _).alloc _).below)
     have zw:=qH<|ZD _ _ zv;have QM:Hid (R4 101 W5.drew B 0 0 0 0):=by rw[<-Pc,<-hB];exact heap_alloc_new _ _
     have zg:Hid (M<B/\W4.heap.size<=B):=by rw[<-hB];exact⟨(ZE _ _ zv).1.lt,T6⟩
     obtain⟨r0,r1,r2,r3⟩:=V _ _ zw;obtain⟨-,l0,l1,l2,l3⟩:=ZS _ _ zw;have V5:Hid (Cw 39 #[.agg #[Iq x,Iq y,Iq w,Iq hi],.agg #[Iq cx,Iq cy,Iq ca,Iq cb]] W5.drew λe v6=>e=Rw (.agg #[Iq C,Iq I,Iq O,Iq s3])/\Hid (Z v6 c1)/\Hid (R4 101 v6 B 0 0 0 0)):=(CP _).mono λe v6 q=>⟨q.1,ZB _ _ _ G q.2,(q.2.block B (aD.1 QM).1).trans QM⟩;have V6:Hid (Cw 39 #[.agg #[Iq x,Iq y,Iq w,Iq hi],.agg #[Iq cx,Iq cy,Iq ca,Iq cb]] v2.drew λe v6=>e=Rw (.agg #[Iq C,Iq I,Iq O,Iq s3])/\Hid (Z v6 c1)/\Hid (B<=v6.heap.size)):=(CP _).mono λe v6 q=>⟨q.1,ZB _ _ _ zw q.2,by rw[<-hB];exact q.2.size⟩;go_region_held(λW=>(W.cell? (aj (An+1) 0)=some (Iq x)/\W.cell? (aj (An+1) 1)=some (Iq y)/\W.cell? (aj (An+1) 2)=some (Iq w)/\W.cell? (aj (An+1) 3)=some (Iq hi))/\W.cell? (aj pb (k*10+4))=some (Iq cx)/\W.cell? (aj pb (k*10+5))=some (Iq cy)/\W.cell? (aj pb (k*10+6))=some (Iq ca)/\W.cell? (aj pb (k*10+7))=some (Iq cb)) (first|exact⟨⟨r0,r1,r2,r3⟩,l0,l1,l2,l3⟩|exact⟨V _ _ G,(ZS _ _ G).2⟩|exact⟨V _ _ zk,(ZS _ _ zk).2⟩|exact⟨V _ _ m,(ZS _ _ m).2⟩|exact⟨V _ _ n,(ZS _ _ n).2⟩) (first|(go_at_call 39;(with_reducible refine ag V5.out ?_);rintro e v6 ⟨rfl,zk,QN⟩;obtain⟨t0,t1,t2,t3,tf⟩:=D5 QN.out;have m:=qH<|ZO _ _ (ZO _ _ (ZO _ _ (ZO _ _ zk B zg.out.2 0 (Iq C)) B zg.out.2 1 (Iq I)) B zg.out.2 2 (Iq O)) B zg.out.2 3 (Iq s3))|(go_at_call 39;(with_reducible refine ag V6.out ?_);rintro e v6 ⟨rfl,zk,Ws⟩;have m:=qH<|ZB _ _ _ zk ((Gr.refl v6).alloc (.cells #[Iq C,Iq I,Iq O,Iq s3] 101)).below;have n:=qH<|ZB _ _ _ zk ((Gr.refl v6).alloc (.cells #[Iq 0,Iq 0,Iq 0,Iq 0] 101)).below));all_goals
      go_wp2_with fail;go_meet;first
       |exact⟨_,rfl,⟨R4.set QN _ _ _ _,zg.1⟩,m⟩
       |exact⟨_,rfl,⟨heap_alloc_new _ _,zz007 zg.1 Ws⟩,m⟩
    case rest=>
     obtain⟨B,rfl,zQ,G⟩:=hcut;obtain⟨t0,t1,t2,t3,-⟩:=D5 zQ.1;have WF:Hid (B≠M):=Ek zQ.2;go_wp2_with fail;clear t0 t1 t2 t3;go_loopw[12] (λyv wi=>∃j:Nat,(j:Int)<=s3/\yv=Iq (I+j)/\Hid (Z wi (tI W H f l bd cx cy ca cb x y w hi c1 (j0+j)))/\Hid (R4 101 wi B C I O s3)) (λyv _=>(I+s3-intOf yv).toNat);case atStart=>exact⟨0,dg,rn,by rw[nK,zD.f1];exact G,zQ.1⟩
     case round=>
      obtain⟨j,hj,rfl,zb,KJ⟩:=hrel;obtain⟨t0,t1,t2,t3,-⟩:=D5 KJ;by_cases zc:(j:Int)<s3
      ·obtain⟨ej,fj⟩:=zD.f3 j zc;have T0:=qH ej;have zO:=qH fj;have zA:I+(j:Int)<I+s3:=dg
       clear ej fj;go_wp2_with fail;clear t0 t1 t2 t3;obtain⟨q,hq⟩:=ad (I+(j:Int));have HQ:=qH hq;rw[hq];rw[hq]at zO T0;go_loopw[13] (λxv wi=>∃i:Nat,(i:Int)<=O/\xv=Iq (C+i)/\Hid (Z wi (sI W H f l bd cx cy ca cb x y w hi q (tI W H f l bd cx cy ca cb x y w hi c1 (j0+j)) (i0+i)))/\Hid (R4 101 wi B C I O s3)) (λxv _=>(C+O-intOf xv).toNat);case atStart=>exact⟨0,dg,rn,by rw[nK,(zO _).1];exact zb,KJ⟩
       case round=>
        obtain⟨i,X7,rfl,s,zi⟩:=hrel;obtain⟨t0,t1,t2,t3,-⟩:=D5 zi;by_cases zo:(i:Int)<O
        ·have zz:C+(i:Int)<C+O:=dg
         have e4:=zD.f4 i zo;have ES:=jZ (W:=W) (H:=H) (f:=f) (g:=l) (bd:=bd) (cx:=cx) (cy:=cy) (ca:=ca) (cb:=cb) (x:=x) (y:=y) (w:=w) (hh:=hi) (q:=q) (c:=tI W H f l bd cx cy ca cb x y w hi c1 (j0+j)) (i0+i);rw[<-e4]at ES;obtain⟨bw,bh,bx,mO⟩:=zC.out;have ED:=qH<|redge_any x y w hi (C+(i:Int)) q wr dg dg bw bh;have bz:=Og x y w hi (C+(i:Int)) q;obtain⟨z,hz⟩:=ad (sJ x y w hi (C+(i:Int)) q);rw[hz]at ED ES bz;have T3:=qH ES;have WR:=qH<|λu=>vE z bz u;obtain⟨r0,r1,r2,r3⟩:=V _ _ s;clear ES e4 hz bw bh bx mO;by_cases z0:0<z;·have Ud:=qH z0;go_wp2_with(go_at_call 40;refine ED.mono ?_;rintro e v7 ⟨rfl,E⟩);have m:=qH<|ZD _ _ (ZB _ _ _ s E);have zP:Hid (R4 101 v7.drew B C I O s3):=(E.block B (aD.1 zi).1).trans zi;clear t0 t1 t2 t3 r0 r1 r2 r3 ED;go_region_held(λW=>(W.cell? (aj As 0)=some (Iq f)/\W.cell? (aj As 1)=some (Iq l)/\W.cell? (aj As 2)=some (Iq bd))/\W.cell? (aj pb (k*10+4))=some (Iq cx)/\W.cell? (aj pb (k*10+5))=some (Iq cy)/\W.cell? (aj pb (k*10+6))=some (Iq ca)/\W.cell? (aj pb (k*10+7))=some (Iq cb)) (first|exact ZS _ _ m|exact ZS _ _ n|exact ZS _ _ zl) (first|(go_at_call 42;refine ag (WR _) ?_;rintro e v8 ⟨rfl,Y⟩;have n:=qH<|ZB _ _ _ m Y;have PT:=qH<|ZP _ _ n (C+(i:Int)) q ⟨(enc [z]).toArray⟩ 1)|(go_at_call 41;refine ag PT ?_;rintro e v9 ⟨rfl,zl,zr⟩));all_goals
           have RK:Hid (R4 101 v9 B C I O s3):=(zr.block B (zz007 (aD.1 zP).1 Y.size) WF).trans ((Y.block B (aD.1 zP).1).trans zP);clear PT;go_wp2;go_roundw;case rel=>exact⟨i+1,dg,by go_num,by rw[<-Nat.add_assoc,T3.out,if_pos Ud.out];exact zl,RK⟩
           case measure=>simp[intOf];omega
         ·have Ud:=qH z0;have Zw:z<=0:=dg
          go_wp2_with(go_at_call 40;refine ED.mono ?_;rintro e v7 ⟨rfl,E⟩);go_wp2;go_roundw;case rel=>exact⟨i+1,dg,by go_num,by rw[<-Nat.add_assoc,T3.out,if_neg (Int.not_lt.2 Zw)];exact ZB _ _ _ s E,(E.block B (aD.1 zi).1).trans zi⟩
          case measure=>simp[intOf];omega
        ·have zz:¬C+(i:Int)<C+O:=dg
         go_wp2;go_roundw;case rel=>exact⟨j+1,dg,by rw[<-HQ.out];go_num,by rw[<-Nat.add_assoc,wY,<-T0.out,<-(zO _).2,show O.toNat=i by omega];exact s,zi⟩
         case measure=>simp[intOf];have:=HQ.out;omega
      ·have zA:¬I+(j:Int)<I+s3:=dg
       go_wp2_with fail;trace_state;go_meet;refine⟨_,?_,zb⟩;show _=tI W H f l bd cx cy ca cb x y w hi c1 hi.toNat;rw[<-zD.f2,show(j:Nat)=s3.toNat by omega]
   case false=>go_wp2_with fail;go_meet;exact⟨c1,rfl,zv⟩
  case rest=>
   obtain⟨c2,HC2,za⟩:=hcut;obtain⟨⟨n0,n1,n2,n3,n4⟩,n6,n7,n8⟩:=ZN _ _ za;obtain⟨r0,r1,r2,r3⟩:=V _ _ za;have zu:Hid (pnF W H f l bd cx cy ca cb kd a6 a7 a8 b0 tx.data.toList x y w hi c=if kd=5 then txK W H f l bd cx cy ca cb x w a7 (lL tx.data.toList a8 w hi) y c2 else c2):=by show _=_;rw[Mh F.1 F.2 HC.out,HC2.out,TW.out,zM.out]
   clear TW HC2 zM zv T6;by_cases k5:kd=5
   ·have e5:(kd==5)=true:=by rw[k5];rfl
    rw[if_pos k5]at zu;obtain⟨bw,bh,bx,mO⟩:=zC.out;have RO:=qH<|rrows_any kd ab tx (.slice kp kl kc) up a8 w hi wc n8 Ug bw bh;have Pj:=FX tx.data.toList a8 w hi (by rw[dZ];have:tx.size<=4000:=Ug;show tx.size<=_;omega) bw;have Yh:(lL tx.data.toList a8 w hi).length<=100000:=by unfold lL;split<;>simp;omega
    unfold KN at RO;obtain⟨A,US⟩:=ad (lL tx.data.toList a8 w hi);rw[US]at RO zu Pj Yh;have Wu:=qH Pj;have Wy:Hid (M<wc.heap.size):=(ZE _ _ za).1.lt;clear k5 n6 n7 n8 US Pj;go_wp2_with(go_at_call 43;refine RO.mono ?_;rintro e v3 ⟨v,rfl,⟨p,cc,rfl,Pl⟩,ze⟩);have RQ:=qH<|ZB _ _ _ za ze;have WS:=qH Pl;clear RO za Pl n0 n1 n2 n3 n4 r0 r1 r2 r3;go_loopw[16] (λiv wi=>∃i:Nat,i<=A.length/\iv=Iq i/\Hid (Z wi (txK W H f l bd cx cy ca cb x w a7 (A.take i) y c2))/\Hid (bp M v3 wi)) (λiv _=>A.length-(intOf iv).toNat);case atStart=>exact⟨0,aR _,rfl,by rw[Au,DW];exact RQ,bp.refl _ _⟩
    case round=>
     obtain⟨i,X_,rfl,s,TZ⟩:=hrel;by_cases zo:i<A.length
     ·have zz:(i:Int)<(A.length:Int):=dg
      obtain⟨gs,rfl,Pf,Pg,UF⟩:=WS i zo;have SG:gs≠M:=by have:M<wc.heap.size:=Wy;omega
      have lc:wr.cell? (aj gs i)=some (.string ⟨A[i].toArray⟩):=(bf (a:=(aj gs i)) (TZ.block gs Pg SG)).trans UF;have UQ:=Wu A[i] (iE zo);have Uh:Hid (txK W H f l bd cx cy ca cb x w a7 (A.take (i+1)) y c2=wrF W H f l bd cx cy ca cb (y+i) (aG (ak (iJ A[i] (ai (aG (ak A[i]))) w a7))) x (txK W H f l bd cx cy ca cb x w a7 (A.take i) y c2)):=by show _=_;rw[gG zo,si,MZ F.1 F.2 HC.out,b_,Eh dg]
      have AL:Hid (∀u,Cw 45 #[.string ⟨A[i].toArray⟩,Iq w,Iq a7] u λe u'=>e=Rw (.string ⟨(iJ A[i] (ai (aG (ak A[i]))) w a7).toArray⟩)/\Hid (Bt u u')):=λu=>(B' ⟨A[i].toArray⟩ w a7 u (by show A[i].toArray.size<=_;simp;omega) dg dg).mono λe u' q=>⟨by simpa using q.1,q.2⟩;have Ss:=K5 A[i] w a7 UQ;generalize iJ A[i] (ai (aG (ak A[i]))) w a7=T at*;generalize A[i]=t at*;have kR:Hid (∀u,M<u.heap.size->Cw 44 #[.string ⟨T.toArray⟩] u λe u'=>∃v,e=Rw v/\Hid (Rh M u' v (aG (ak T)))/\Hid (Bt u u')):=λu hu=>Jw T u hu Ss;have zN:=qH (cE (ak T));have hcl:(aG (ak T)).length<=4000000000000:=aF (wO T) dg;obtain⟨cl,zK⟩:=ad (aG (ak T));rw[zK]at Uh kR zN hcl;have ZR:=s;have Rv:Hid (M<wr.drew.heap.size):=(ZE _ _ s).1.lt;obtain⟨-,r1,r2,-⟩:=V _ _ s;obtain⟨⟨-,n1,-,-,-⟩,-,n7,-⟩:=ZN _ _ s;clear UF Ss zK UQ;go_upto_region 21 with fail;go_cut[17]from 106 to 155 (λgv wx=>Hid (Rh M wx gv cl)/\Hid (Z wx (txK W H f l bd cx cy ca cb x w a7 (A.take i) y c2))/\Hid (bp M v3 wx));case first=>have zw:=qH<|ZD _ _ s;go_region_held(λW=>(W.cell? (aj gs i)=some (.string ⟨t.toArray⟩)/\W.cell? (aj (An+1) 2)=some (Iq w))/\W.cell? (aj An 1)=some (Sq ab 12 12)/\W.cell? (aj ab 7)=some (Iq a7)) (first|exact⟨⟨lc,r2⟩,n1,n7⟩|exact S7|exact S8) (first|(go_at_call 45;refine ag (AL _) ?_;rintro e v7 ⟨rfl,E⟩;have m:=qH<|ZB _ _ _ zw E;have Vv:v7.cell? (aj gs i)=some (.string ⟨t.toArray⟩):=an E lc;have S7:Hid ((v7.cell? (aj gs i)=some (.string ⟨t.toArray⟩)/\v7.cell? (aj (An+1) 2)=some (Iq w))/\v7.cell? (aj An 1)=some (Sq ab 12 12)/\v7.cell? (aj ab 7)=some (Iq a7)):=⟨⟨Vv,(V _ _ m).2.2.1⟩,(ZN _ _ m).1.2.1,(ZN _ _ m).2.2.1⟩)|(go_at_call 44;refine ag (kR _ (zz007 Rv E.size)) ?_;rintro e v8 ⟨vv,rfl,WX,Y⟩;have n:=qH<|ZB _ _ _ m Y;have S8:Hid ((v8.cell? (aj gs i)=some (.string ⟨t.toArray⟩)/\v8.cell? (aj (An+1) 2)=some (Iq w))/\v8.cell? (aj An 1)=some (Sq ab 12 12)/\v8.cell? (aj ab 7)=some (Iq a7)):=⟨⟨an Y Vv,(V _ _ n).2.2.1⟩,(ZN _ _ n).1.2.1,(ZN _ _ n).2.2.1⟩));all_goals go_wp2_with fail;go_meet;exact⟨WX,n,TZ.trans ((bp.below (Gr.refl wr).drew.below).trans ((bp.below E).trans (bp.below Y)))⟩
      case rest=>
       obtain⟨⟨p2,c3,rfl,hcc⟩,n,Wc⟩:=hcut;have Rl:=qH hcc;obtain⟨r0,-,-,-⟩:=V _ _ n;clear hcc lc s r1 r2 n1 n7;go_wp2_with fail;clear r0;go_loopw[18,19] (λxv jv wi=>∃j:Nat,j<=cl.length/\jv=Iq j/\xv=Iq (x+ai (cl.take j))/\Hid (Z wi (wrF W H f l bd cx cy ca cb (y+i) (cl.take j) x (txK W H f l bd cx cy ca cb x w a7 (A.take i) y c2)))/\Hid (bp M wc wi)) (λ_ jv _=>cl.length-(intOf jv).toNat);case atStart=>exact⟨0,aR _,rfl,by rw[Au];simp[ai],by rw[Au];exact n,bp.refl _ _⟩
       case round=>
        obtain⟨j,_5,rfl,rfl,zb,zt⟩:=hrel;by_cases zc:j<cl.length
        ·have zA:(j:Int)<(cl.length:Int):=dg
         obtain⟨b,rfl,zX,zZ,zn,N⟩:=Rl j zc;have hwb:=bB cl zN j;have Nx:=zN cl[j] (iE zc);have zE:=qH<|wrF_next W H f l bd cx cy ca cb (y+i) cl j zc x (txK W H f l bd cx cy ca cb x w a7 (A.take i) y c2);have zF:=qH<|wideSum_snoc cl j zc;obtain⟨d,hd⟩:=ad cl[j];rw[hd]at zn N Nx zE zF;obtain⟨D,wd⟩:=d;simp only at zn N Nx zE zF;have zy:=zt.block b zZ (Ek zX);have y0:=(bf (a:=(aj b (j*2))) zy).trans zn;have y1:=(bf (a:=(aj b (j*2+1))) zy).trans N;have PT:=qH<|ZP _ _ (ZD _ _ zb) (x+ai (cl.take j)) (y+(i:Int)) ⟨D.toArray⟩ wd;obtain⟨X,hX⟩:=ad (ai (cl.take j));rw[hX]at PT zE zF hwb;rw[hX];obtain⟨-,r1,-,-⟩:=V _ _ zb;obtain⟨⟨C,I,O⟩,l0,l1,l2,l3⟩:=ZS _ _ zb;have hwx:IntKind.i64.wrap (x+X+wd)=x+X+wd:=IntWalk.i64_in _ dg;have hwy:IntKind.i64.wrap (y+(i:Int))=y+(i:Int):=IntWalk.i64_in _ dg;clear hd hX zn N zy;go_wp2_with fail;go_region_held(λW=>(W.cell? (aj (An+1) 1)=some (Iq y)/\W.cell? (aj b (j*2))=some (.string ⟨D.toArray⟩)/\W.cell? (aj b (j*2+1))=some (Iq wd))/\(W.cell? (aj As 0)=some (Iq f)/\W.cell? (aj As 1)=some (Iq l)/\W.cell? (aj As 2)=some (Iq bd))/\W.cell? (aj pb (k*10+4))=some (Iq cx)/\W.cell? (aj pb (k*10+5))=some (Iq cy)/\W.cell? (aj pb (k*10+6))=some (Iq ca)/\W.cell? (aj pb (k*10+7))=some (Iq cb)) (first|exact⟨⟨r1,y0,y1⟩,⟨C,I,O⟩,l0,l1,l2,l3⟩|exact S9) (first|(go_at_call 41;refine ag PT ?_;rintro e v9 ⟨rfl,zl,zr⟩;have m0:=(bf (a:=(aj b (j*2))) (zr.block b (zz007 zZ zt.size) (Ek zX))).trans y0;have m1:=(bf (a:=(aj b (j*2+1))) (zr.block b (zz007 zZ zt.size) (Ek zX))).trans y1;have S9:Hid ((v9.cell? (aj (An+1) 1)=some (Iq y)/\v9.cell? (aj b (j*2))=some (.string ⟨D.toArray⟩)/\v9.cell? (aj b (j*2+1))=some (Iq wd))/\(v9.cell? (aj As 0)=some (Iq f)/\v9.cell? (aj As 1)=some (Iq l)/\v9.cell? (aj As 2)=some (Iq bd))/\v9.cell? (aj pb (k*10+4))=some (Iq cx)/\v9.cell? (aj pb (k*10+5))=some (Iq cy)/\v9.cell? (aj pb (k*10+6))=some (Iq ca)/\v9.cell? (aj pb (k*10+7))=some (Iq cb)):=⟨⟨(V _ _ zl).2.1,m0,m1⟩,ZS _ _ zl⟩));all_goals
          have Rk:Hid (bp M wc v9):=zt.trans ((bp.below (Gr.refl wr).drew.below).trans zr);clear PT y0 y1;go_wp2;go_roundw;case rel=>exact⟨j+1,zc,by go_num,by rw[zF.out,<-Int.add_assoc],by rw[zE.out];exact zl,Rk⟩
          case measure=>simp[intOf];omega
        ·have zA:¬(j:Int)<(cl.length:Int):=dg
         go_wp2;go_roundw;case rel=>exact⟨i+1,zo,by go_num,by rw[Uh.out];have:=zb.out;rw[eP dg]at this;exact this,Wc.trans zt⟩
         case measure=>simp[intOf];omega
     ·have zz:¬(i:Int)<(A.length:Int):=dg
      go_wp2;go_end0;refine⟨rfl,?_,(ZE _ _ s).2⟩;rw[zu.out];have:=(ZE _ _ s).1;rw[eP dg]at this;exact this
   ·have e5:(kd==5)=false:=by simpa using k5
    rw[if_neg k5]at zu;clear k5;go_wp2;go_end0;refine⟨rfl,?_,(ZE _ _ za).2⟩;rw[zu.out];exact(ZE _ _ za).1
end
end Go.Proofs.YtaanagpadfcmlaaGreatDoor
namespace Go.Proofs.YtaanagpadfcmlaaGreatDoor
open Go.RowKit Go.Sort Go.Proofs.Tryz
set_option linter.all false
/--Eo the places Xs. -/
theorem cV.covs{s}{L}{l}{j}{w h}{d off}{o}{P}(e:dp s L)(hp:cV L l j w h d off o P L.length)(i:1<=w/\w<=400)(hh:1<=h/\h<=400)k(a:k<L.length):
 pu (P k 4) (P k 5) (P k 6) (P k 7)/\O9 (P k 0) (P k 1) (P k 2) (P k 3) (P k 4) (P k 5) (P k 6) (P k 7)/\(0<=P k 2/\P k 2<=100000)/\(0<=P k 3/\P k 3<=100000):=by
 have n:=hp.onScr e i hh (k+1) k dg a;have r:=hp.bd k a;unfold v_ at n;refine⟨⟨dg,dg,dg,dg⟩,λp q hc=>?_,dg,dg⟩;unfold vU at hc;by_cases m:k=0;·subst m;obtain⟨t,z,A,C,D,E,F,G⟩:=hp.root;omega
 ·obtain⟨u,_,_,hi,_⟩:=hp.clip e i hh a dg;grind[Em]
theorem TE{j W x:Nat}(hW:1<=W)(h:(j:Int) %(W:Int)=(x:Int)):Op.intDiv .rem .i64 (j:Int) (W:Int)=pure (.int .i64 (x:Int)):=by unfold Op.intDiv;grind
theorem TD{j W y:Nat}(hW:1<=W)(h:(j:Int)/(W:Int)=(y:Int))(hy:y<=100000):Op.intDiv .quo .i64 (j:Int) (W:Int)=pure (.int .i64 (y:Int)):=by
 unfold Op.intDiv;rw[if_neg dg];show pure (Value.int .i64 (IntKind.i64.wrap (Int.tdiv _ _)))=_;have e:IntKind.i64.wrap (y:Int)=(y:Int):=by rw[IntKind.wrap_i64];omega
 grind
end Go.Proofs.YtaanagpadfcmlaaGreatDoor
namespace Go.Proofs.YtaanagpadfcmlaaGreatDoor
open Go.RowKit Go.Sort Go.Proofs.Tryz
set_option linter.all false
/--Eo the Oe Frame uM. -/
def Nb(U U':World)(w h:Int)(dM off:Nat->Int)(sn:Nat)(Wd:Nat->Int)(Hf:Nat->Int->Int)(r:Except (Option (Nat×Nat)) (List Nd))(e:Ending):Prop:=Bt U U'/\match r with
 |.error x=>e=Rw (.tuple #[.slice none 0 0,Iq (iq x:Int),Iq (l8 x:Int)])
 |.ok L=>(¬(1<=w/\w<=400/\1<=h/\h<=400)/\e=Rw (.tuple #[.slice none 0 0,Iq 6,Iq 0]))\/∃W H:Nat,w=W/\h=H/\(1<=W/\W<=400)/\(1<=H/\H<=400)/\∃N cap P,cV L Wd Hf w h dM off sn P L.length/\e=Rw (.tuple #[Sq N (W*H) cap,Iq 0,Iq 0])/\Cv 77 U' N W H (frK W H L P L.length)
set_option maxRecDepth 100000 in
set_option maxHeartbeats 8000000 in
theorem rH(t:ByteArray)(w h:Int)(sp:Option Addr)(n m:Nat)(U:World)(a b:Int)(l:a≠0)(j:Cw 15 #[.string t,Iq w,Iq h,.slice sp n m] U λe d=>e=Rw (.tuple #[.slice none 0 0,.slice none 0 0,Iq a,Iq b])/\Bt U d):
 Cw 6 #[.string t,Iq w,Iq h,.slice sp n m] U λe d=>e=Rw (.tuple #[.slice none 0 0,Iq a,Iq b])/\Bt U d:=by
 have o:=qH j;have p:(a !=0)=true:=by simpa using l
 clear j l;go_enter func6,ntmps6;go_wp2_with(go_at_call 15;refine o.mono ?_;rintro e q ⟨rfl,i⟩);refine bodyPost_ret (results_tmp3 rfl _ _ _) rfl ?_;exact⟨rfl,i⟩
set_option maxRecDepth 100000 in
set_option maxHeartbeats 8000000 in
theorem FT(t:ByteArray)(W H:Nat)(hW:1<=W/\W<=400)(hH:1<=H/\H<=400)(sp:Option Addr)(s sc:Nat)(j off:Nat->Int)(U:World)(V:jB U sp s j off)(X:s<=4611686018427387904){L:List Nd}(hp:bJ t=.ok L){Wd:Nat->Int}{Hf:Nat->Int->Int}(hZ:Sz L Wd Hf):
 Cw 6 #[.string t,Iq W,Iq H,.slice sp s sc] U λe E=>∃N cap P,cV L Wd Hf W H j off s P L.length/\e=Rw (.tuple #[Sq N (W*H) cap,Iq 0,Iq 0])/\Cv 77 E N W H (frK W H L P L.length)/\Bt U E:=by
 have r:=fV (dH hp);have l:=r.vl.cnt;have LY:=qH<|rlay_ok t (W:Int) (H:Int) sp s sc j off U V X hp hZ dg;have NC:Hid (∀u:World,Cw 16 #[Iq W,Iq H] u λe w'=>∃K,e=Rw (.tuple #[Pq K,Iq 0])/\Hid (RN u w' W H K)):=λu=>Mr W H hW hH u;have zh:Hid (∀i:Nat,i<L.length->(aa L i).up<i):=λi hi=>r.nest.upl i hi;have zg:Hid (∀k:Nat,k<L.length->(aa L k).text.length<=4000):=λk I=>by have:=r.vl.tl k I;have:=r.sz;omega
 have Z:Hid (∀P:Nat->Nat->Int,cV L Wd Hf W H j off s P L.length->∀k:Nat,k<L.length->(pu (P k 4) (P k 5) (P k 6) (P k 7)/\O9 (P k 0) (P k 1) (P k 2) (P k 3) (P k 4) (P k 5) (P k 6) (P k 7)/\(0<=P k 2/\P k 2<=100000)/\(0<=P k 3/\P k 3<=100000))/\(-100000000000<=P k 0/\P k 0<=100000000000)/\(-100000000000<=P k 1/\P k 1<=100000000000)):=λP hP k I=>⟨cV.covs r hP dg dg k I,by have:=hP.bd k I;omega,by have:=hP.bd k I;omega⟩;have h:Hid ((1<=W/\W<=400)/\(1<=H/\H<=400)):=⟨hW,hH⟩;have C:=qH l;obtain⟨n,hn⟩:=ad L.length;have q:=qH hn;clear V X hp hZ r l hW hH;go_enter func6,ntmps6;rw[hn]at LY;clear hn;go_wp2_with(first|(go_at_call 15;refine LY.mono ?_;rintro e U1 ⟨g,gc,pb,P,rfl,zb,ze,D,z⟩)|(go_at_call 16;refine(NC _).mono ?_;rintro e U2 ⟨K,rfl,zc⟩));obtain⟨zj,M,cap,a,F,G⟩:=zc.out;have m:=qH a;have o:=qH F;have d:=qH G;clear LY NC zj a F G;go_loopw[17] (λkv wi=>∃k:Nat,k<=n/\kv=Iq k/\Hid (Cv 77 wi M W H (frK W H L P k))/\Hid (bp M U2 wi)) (λkv _=>n-(intOf kv).toNat);case atStart=>exact⟨0,aR _,rfl,m.cv,bp.refl _ _⟩
 case round=>
  obtain⟨k,zl,rfl,HV,A⟩:=hrel;by_cases zk:k<n
  ·have J:(k:Int)<(n:Int):=dg
   have zm:(k:Int)<=100:=by have:L.length=n:=q;have:L.length<=100:=C;omega
   have PD:Hid (Cw 17 #[Pq K,Sq g n gc,Sq pb n n,Iq (k:Int)] wr λe E=>e=Rw (.tuple #[])/\Hid (Cv 77 E M W H (frK W H L P (k+1)))/\Hid (bp M wr E)):=by
    have p:k<L.length:=by have:L.length=n:=q;omega
    have O:=zb.out;have T:=ze.out;rw[<-q.out]at O T⊢;have Q:=D.out;rw[<-q.out]at Q;obtain⟨⟨q1,q2,q3,q4⟩,q5,q6⟩:=Z P Q k p;exact yi g gc pb k p P U1 wr O T (A.low o d.size d) o zh (zg k p) C q1 q2 q3 q4 q5 q6 (m.put A HV) h.1 h.2 (PAll.frK h.1 h.2 L P k)
   go_wp2_with(go_at_call 17;refine PD.mono ?_;rintro e v9 ⟨rfl,zi,Y⟩);go_wp2;go_roundw;case rel=>exact⟨k+1,zk,by go_num,zi,A.trans Y⟩
   case measure=>simp[intOf];omega
  ·have J:¬(k:Int)<(n:Int):=dg
   have a:=m.put A HV;have k2:=a.k2;have HE:Hid (Bt U wr):=z.trans ((A.low (B:=U1.heap.size) o d.size d).mono z.size);have za:Hid (k=L.length):=by have:L.length=n:=q;show k=_;omega
   clear a;go_wp2;refine bodyPost_ret (results_tmp3 rfl _ _ _) rfl ?_;exact⟨M,cap,P,q.out▸D.out,rfl,by rw[<-za.out];exact HV,HE⟩
theorem FS(t:ByteArray)(w h:Int)(sp:Option Addr)(a i:Nat)(d off:Nat->Int)(U:World)(r:jB U sp a d off)(s:a<=4611686018427387904)(C:Nat->Int)(A:Nat->Int->Int)(o:∀L,bJ t=.ok L->Sz L C A):
 Cw 6 #[.string t,Iq w,Iq h,.slice sp a i] U λe l=>Nb U l w h d off a C A (bJ t) e:=by
 have j:=rN t U;cases hp:bJ t with
 |error x=>
  rw[vu hp]at j;have z:(((iq x:Int))!=0)=true:=by have:=pU hp;simp;omega
  exact(rH t w h sp a i U (iq x) (l8 x) (by have:=pU hp;omega) (yz t w h sp a i U _ _ _ _ (j.mono λe w' q=>⟨_,_,_,q.2,q.1⟩) (.inl ⟨z,rfl,rfl⟩))).mono λe l q=>⟨q.2,q.1⟩
 |ok L=>
  by_cases D:1<=w/\w<=400/\1<=h/\h<=400;·obtain⟨W,rfl⟩:∃W:Nat,w=W:=⟨w.toNat,dg⟩;obtain⟨H,rfl⟩:∃H:Nat,h=H:=⟨h.toNat,dg⟩;refine(FT t W H dg dg sp a i d off U r s hp (o L hp)).mono ?_;rintro e l ⟨N,cap,P,h1,m,n,E⟩;exact⟨E,.inr ⟨W,H,rfl,rfl,dg,dg,N,cap,P,h1,m,n⟩⟩
  ·rw[dH hp]at j;refine(rH t w h sp a i U 6 0 (by decide) (yz t w h sp a i U 0 0 6 0 (j.mono λe w' q=>?_) (.inr ⟨rfl,rfl,rfl,D⟩))).mono λe l q=>⟨q.2,.inl ⟨D,q.1⟩⟩;obtain⟨h1,I,F,G,m,n⟩:=q;obtain⟨J,z⟩:=n.nr.row;obtain⟨p,k,rfl⟩:=db z;exact⟨p,_,k,m,h1⟩
end Go.Proofs.YtaanagpadfcmlaaGreatDoor
namespace Go.Proofs.YtaanagpadfcmlaaGreatDoor
open Go.RowKit Go.Sort Go.Proofs.Tryz
set_option linter.all false
theorem va{W H:Nat}{L:List Nd}{P Q:Nat->Nat->Int}:∀k,(∀i,i<k->∀t,t<10->P i t=Q i t)->frK W H L P k=frK W H L Q k
 |0,_=>rfl
 |k+1,h=>by have e:=λt m=>h k dg t m;unfold frK;rw[va k λi hi=>h i dg,e 0 dg,e 1 dg,e 2 dg,e 3 dg,e 4 dg,e 5 dg,e 6 dg,e 7 dg]
/--l d a j. -/
theorem Bb(s:ByteArray)(w h:Int)(m off:Nat->Int)(O:Nat)(G:Nat->Int)(F:Nat->Int->Int):∃(n W H:Nat) (c d:Int) (C:Nat->Nat->Ce),W*H=n/\n<=160000/\
 (∀U a e,Po U a w h m off O G F (bJ s) e->∃X lc,e=Rw (.tuple #[.slice X n lc,Iq c,Iq d])/\Hid (Bt U a)/\Hid (n=0\/∃N,X=some (aj N 0)/\Cv 73 a N W H C))/\
 ∀U a e,Nb U a w h m off O G F (bJ s) e->∃Y mc,e=Rw (.tuple #[.slice Y n mc,Iq c,Iq d])/\Hid (Bt U a)/\Hid (n=0\/∃N,Y=some (aj N 0)/\Cv 77 a N W H C):=by
 cases hp:bJ s with
 |error q=>exact⟨0,0,0,_,_,λ_ _=>bk 0 0 0,rfl,dg,λU a e z=>⟨none,0,z.2,z.1,.inl rfl⟩,λU a e z=>⟨none,0,z.2,z.1,.inl rfl⟩⟩
 |ok L=>
  have V:dp s L:=fV (dH hp);by_cases p:1<=w/\w<=400/\1<=h/\h<=400
  ·obtain⟨W,rfl⟩:∃W:Nat,w=W:=⟨w.toNat,dg⟩;obtain⟨H,rfl⟩:∃H:Nat,h=H:=⟨h.toNat,dg⟩;by_cases J:∃P,cV L G F W H m off O P L.length
   ·obtain⟨P,T⟩:=J;refine⟨W*H,W,H,0,0,frK W H L P L.length,rfl,aF (jJ (show W<=400 by omega) (show H<=400 by omega)) (by decide),λU a e z=>?_,λU a e z=>?_⟩
    ·rcases z.2 with⟨q,_⟩|⟨l,j,r,A,_,_,N,cap,Q,o,D,E,_⟩;·exact absurd p q
     ·obtain rfl:W=l:=dg
      obtain rfl:H=j:=dg;exact⟨_,cap,D,z.1,.inr ⟨N,rfl,by rw[va L.length λi hi t I=>cV.uniq V T o (i+1) i dg hi t I];exact E⟩⟩
    ·rcases z.2 with⟨q,_⟩|⟨l,j,r,A,_,_,N,cap,Q,o,D,E⟩;·exact absurd p q
     ·obtain rfl:W=l:=dg
      obtain rfl:H=j:=dg;exact⟨_,cap,D,z.1,.inr ⟨N,rfl,by rw[va L.length λi hi t I=>cV.uniq V T o (i+1) i dg hi t I];exact E⟩⟩
   ·refine⟨0,0,0,0,0,λ_ _=>bk 0 0 0,rfl,dg,λU a e z=>?_,λU a e z=>?_⟩
    ·rcases z.2 with⟨q,_⟩|⟨l,j,r,A,_,_,N,cap,Q,o,D,E,_⟩;·exact absurd p q
     ·exact absurd ⟨Q,o⟩ J
    ·rcases z.2 with⟨q,_⟩|⟨l,j,r,A,_,_,N,cap,Q,o,D,E⟩;·exact absurd p q
     ·exact absurd ⟨Q,o⟩ J
  ·refine⟨0,0,0,6,0,λ_ _=>bk 0 0 0,rfl,dg,λU a e z=>?_,λU a e z=>?_⟩
   ·rcases z.2 with⟨_,q⟩|⟨l,j,r,A,Z,e4,_⟩;·exact⟨none,0,q,z.1,.inl rfl⟩
    ·exact absurd dg p
   ·rcases z.2 with⟨_,q⟩|⟨l,j,r,A,Z,e4,_⟩;·exact⟨none,0,q,z.1,.inl rfl⟩
    ·exact absurd dg p
set_option maxRecDepth 100000 in
set_option maxHeartbeats 4000000 in
theorem yl(p d:Option Addr)(c c':Nat)(w:World):Cw 7 #[.slice p 0 c,.slice d 0 c'] w λe w'=>e=Rw (.bool true)/\Gr w w':=by
 go_enter func7,ntmps7;go_wp2_with fail;go_loop[5] (λa=>a=Iq 0) (λ_=>0);case atStart=>exact rfl
 case round=>obtain rfl:=hrel;go_wp2;go_ret;exact⟨rfl,Gr.refl w⟩
set_option maxRecDepth 100000 in
set_option maxHeartbeats 16000000 in
theorem vw(s:ByteArray)(w h:Int)(sp:Option Addr)(l sc:Nat)(i off:Nat->Int)(E:Nat->Addr)(W:World)(hG:vY W E)(hA:gM W E)(hE:vX W)(ht:bN W)(F:jB W sp l i off)(zm:l<=8796093022208):
 Cw 3 #[.string s,Iq w,Iq h,.slice sp l sc] W λe W'=>e=Rw (.bool true)/\Bt W W':=by
 have zo:prog.follows .mixedOrders=true:=ns;obtain⟨Wd,H,T⟩:=vM s;obtain⟨n,V,K,c,d,C,D,hn,e1,e2⟩:=Bb s w h i off l Wd H;have NU:Hid (∀n u,Cw 8 #[Iq n] u λe w'=>e=Rw (Iq n)/\w'=u):=IY;have SC:Hid (Cw 4 #[.slice sp l sc] W λe m=>∃p c,e=Rw (.slice p l c)/\Hid (jB m p l i off/\(∀a:Addr,p=some a->a.block<m.heap.size)/\Bt W m)):=(yI sp l sc i off W F zm).mono (by rintro e m ⟨p,c,h1,Y,h3,h4⟩;exact⟨p,c,h1,Y,λa e=>(h3 a e).2,h4⟩);have LY:Hid (∀u p q,Bt W u->jB u p l i off->(∀a:Addr,p=some a->a.block<u.heap.size)->Cw 5 #[.string s,Iq w,Iq h,.slice p l q] u λe m=>∃lp lc,e=Rw (.tuple #[.slice lp n lc,Iq c,Iq d])/\Hid (Bt u m)/\Hid (n=0\/∃N,lp=some (aj N 0)/\Cv 73 m N V K C)):=λu p q hu h1 Y=>(ua s w h p l q i off E u (hG.cells hu) (hA.below hu) (hE.below hu) (ht.below hu) h1 dg Y Wd H T).mono λe m z=>e1 u m e z;have LX:Hid (∀t u,Bt W u->Cw 5 #[.string t,Iq 5,Iq 3,.slice none 0 0] u λe m=>∃v,e=Rw v/\Hid (Bt u m)):=λt u hu=>(BV t 5 3 none 0 0 i off E u (hG.cells hu) (hA.below hu) (hE.below hu) (ht.below hu) (.inl rfl) dg (λa e=>by cases e)).mono λe m z=>by
  obtain⟨hb,z⟩:=z;cases hp:bJ t with
  |error q=>rw[hp]at z;exact⟨_,z,hb⟩
  |ok L=>
   rw[hp]at z;rcases z with⟨_,z⟩|⟨_,_,_,_,_,_,N,cap,P,zq,H',_,_,z,_⟩;·exact⟨_,z,hb⟩
   ·exact⟨_,z,hb⟩
 have RL:Hid (∀u,Bt W u->Cw 6 #[.string s,Iq w,Iq h,.slice sp l sc] u λe m=>∃mp mc,e=Rw (.tuple #[.slice mp n mc,Iq c,Iq d])/\Hid (Bt u m)/\Hid (n=0\/∃N,mp=some (aj N 0)/\Cv 77 m N V K C)):=λu hu=>(FS s w h sp l sc i off u (F.below hu) dg Wd H T).mono λe m z=>e2 u m e z;have HSP:Hid (∀u,Bt W u->jB u sp l i off):=λu hu=>F.below hu;have zj:Hid (V*K=n/\n<=160000):=⟨D,hn⟩;have zu:(c==c)=true:=rn;have zt:(d==d)=true:=rn;clear T e1 e2 hG hA hE ht F D hn;go_enter func3,ntmps3;go_wp2_with fail;refine SC.mono ?_;rintro e U1 ⟨p1,c1,rfl,r⟩;go_wp2_with fail;refine(LY _ _ _ r.2.2 r.1 r.2.1).mono ?_;rintro e U2 ⟨lp,lc,rfl,X,zg⟩;have J:=qH<|r.2.2.trans (X.mono r.2.2.size);go_wp2_with fail;refine(LX _ _ J).mono ?_;rintro e U3 ⟨v3,rfl,G⟩;have O:=qH<|J.trans (G.mono J.size);go_wp2_with fail;refine(RL _ O).mono ?_;rintro e U4 ⟨mp,mc,rfl,I,zh⟩;have Q:=qH<|O.trans (I.mono O.size);have zi:Hid (jB U4 p1 l i off):=((r.1.below X).below G).below I;have zk:=qH<|HSP U4 Q;have ze:Hid (∀u,Bt U4 u->Cw 7 #[.slice lp n lc,.slice mp n mc] u λe w'=>e=Rw (.bool true)/\Hid (Bt u w')):=λu hu=>by
  obtain⟨D,hn⟩:=zj.out;by_cases h0:n=0;·rw[h0];exact(yl lp mp lc mc u).mono λe w' q=>⟨q.1,q.2.below⟩
  ·obtain⟨N,rfl,h1⟩:=zg.resolve_left h0;obtain⟨N',rfl,Y⟩:=zh.resolve_left h0;exact(BA u (((h1.below G).below I).below hu) (Y.below hu) n D hn).mono λe w' q=>⟨q.1,q.2.below⟩
 clear SC LY LX RL;go_wp2_with fail;go_loopw[16] (λiv wr=>∃j:Nat,j<=l/\iv=Iq (j:Int)/\Hid (Bt U4 wr)) (λiv _=>l-(intOf iv).toNat);case atStart=>exact⟨0,aR _,rfl,af _ _⟩
 case round=>
  obtain⟨j,hj,rfl,A⟩:=hrel;by_cases za:j<l
  ·have zb:(j:Int)<(l:Int):=dg
   obtain⟨b,o,rfl,zr,hc⟩:=(zi.below A).resolve_left dg;obtain⟨b2,o2,rfl,zn,zl⟩:=(zk.below A).resolve_left dg;obtain⟨c0,c1⟩:=hc j za;obtain⟨d0,d1⟩:=zl j za;obtain⟨x,hx⟩:=ad (i j);obtain⟨y,hy⟩:=ad (off j);rw[hx]at c0 d0;rw[hy]at c1 d1;go_wp2_with fail;go_quiet(fail);go_wp2;go_roundw;case rel=>exact⟨j+1,dg,by go_num,cX A _⟩
   case measure=>simp[intOf];omega
  ·have zb:¬(j:Int)<(l:Int):=dg
   go_wp2_with(first|(go_at_call 7;refine(ze _ A).mono ?_;rintro e U6 ⟨rfl,zc⟩)|(go_at_call 8;refine(NU _ _).mono ?_;rintro e U5 ⟨rfl,h5⟩;obtain rfl:=h5.symm));go_ret;have Z:=Q.trans (A.mono Q.size);exact⟨rfl,Z.trans (zc.mono Z.size)⟩
