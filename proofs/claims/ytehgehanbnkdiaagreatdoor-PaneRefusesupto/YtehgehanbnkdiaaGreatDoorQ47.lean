import Derived.Test.YtehgehanbnkdiaaGreatDoorQ46
import Derived.Test.YtehgehanbnkdiaaGreatDoorQ28
set_option linter.all false
set_option maxRecDepth 100000
set_option maxHeartbeats 16000000
namespace Go.Proofs.YtehgehanbnkdiaaGreatDoor
open Go.RowKit Go.Sort Go.Proofs.Tryz
def S9(U U':AT)(w h:Int)(eW off:zzb)(sn:Nat)(Wd:zzb)(H:zzg)(r:Except (Option (Nat×Nat)) (List Nd))(e:Ending):Prop:=Bq U U'/\match r with
 |.error x=>e=Rw (.tuple #[.slice none 0 0,Iq (gG x:Int),Iq (mC x:Int)])
 |.ok L=>(¬(1<=w/\w<=400/\1<=h/\h<=400)/\e=Rw (.tuple #[.slice none 0 0,Iq 6,Iq 0]))\/((1<=w/\w<=400/\1<=h/\h<=400)/\∃pb P,e=Rw (.tuple #[Sq pb L.length L.length,Iq 0,Iq 0])/\U'.rowIs pb 95 (L.length*10) (ss P)/\cI L Wd H w h eW off sn P L.length/\U.heap.size<=pb)
def layout_at(t:BY)(w h:Int)(sp:zze)(s sc:Nat)(l off:zzb)(E:zzi)(U:AT)(hG:qK U E)(hA:ee U E)(hE:qJ U)(ht:aY U)(O:og U sp s l off)(zg:s<=4611686018427387904)(zh:∀a:Addr,sp=some a->a.block<U.heap.size)(D:zzb)(H:zzg)(I:∀L,bv t=.ok L->Sz L D H):
 Cw 36 #[.string t,Iq w,Iq h,.slice sp s sc] U λe U'=>S9 U U' w h l off s D H (bv t) e:=by
 have W:Hid (∀L,bv t=.ok L->Sz L D H):=I;clear I;have TP:Hid (Cw 29 #[.string t] U λe w'=>NB U w' e (bv t)):=tparse_any t E U hG hA hE;have p:Hid (∀n u,Cw 71 #[Iq n] u λe w'=>e=Rw (.bool (decide (1<=n/\n<=400)))/\w'=u):=yE;have F:Hid (aY U/\og U sp s l off):=⟨ht,O⟩;clear hG hA hE ht O;go_enter func36,ntmps36;go_wp2_with fail;refine TP.mono ?_;rintro e y ⟨f,Q⟩;have d:Hid (Bq U y):=f;clear f TP;cases o:bv t with
 |error x=>
  rw[o]at Q;subst Q;have hx:(gG x:Int)≠0:=by have:=lH o;omega
  have zi:((gG x:Int)!=0)=true:=by simpa using hx
  have i:Hid (bv t=.error x):=o;obtain⟨c,hc⟩:∃z:Int,(gG x:Int)=z:=⟨_,rfl⟩;have S:Hid ((gG x:Int)=c):=hc;rw[hc]at hx zi|-;clear o hc;go_wp2;refine bodyPost_ret (results_tmp3 rfl _ _ _) rfl ?_;rw[i.out];exact⟨d,by show _=_;rw[S.out];rfl⟩
 |ok L=>
  rw[o]at Q;obtain⟨nv,KV,rfl,hn⟩:=Q;have hT:ep t L:=ea (de o);have hS:=W L o;have zj:=hT.pos;obtain⟨g,b,rfl⟩:∃g b,nv=Sq g L.length b:=by obtain⟨xs,hx⟩:=hn.nr.row;grind[cm]
  have V:Hid (PN y U.heap.size (Sq g L.length b) L KV):=hn;have i:Hid (bv t=.ok L):=o;clear hn o;by_cases R:1<=w/\w<=400
  .by_cases hh:1<=h/\h<=400
   .have G:Hid (∀u,Cw 71 #[Iq w] u λe w'=>e=Rw (.bool true)/\w'=u):=λu=>by have:=p w u;grind
    have X:Hid (∀u,Cw 71 #[Iq h] u λe w'=>e=Rw (.bool true)/\w'=u):=λu=>by have:=p h u;grind
    have NM:Hid (Cw 72 #[Sq g L.length b] y λe C=>∃m r v,e=Rw (Pq m)/\Hid (Bq y C/\Hs C m r g b v L KV D H 0/\y.heap.size<=r)):=by refine(pT g b hT hS y _ V (F.1.below d)).mono ?_;rintro e C ⟨m,r,v,Y,Z,h3,h4⟩;exact⟨m,r,v,Y,Z,h3,h4⟩
    have PL:Hid (∀u m r v,Bq y u->Hs u m r g b v L KV D H 0->Cw 73 #[Pq m,Iq w,Iq h,.slice sp s sc] u λe C=>∃A,e=Rw (Sq A L.length L.length)/\Hid (∃P,C.rowIs A 95 (L.length*10) (ss P)/\cI L D H w h l off s P L.length/\u.grownBy C (some r)/\u.heap.size<=A)):=λu m r v hu ze=>by have M:=d.trans (hu.mono d.size);refine(z_ m r g b v hT hS w h sp s sc l off u ze R hh (F.2.below M) zg (λa e=>zz006 (zh a e) M.size)).mono ?_;rintro e C ⟨A,P,Y,Z,h3,h4,j⟩;exact⟨A,Y,P,Z,h3,h4,j⟩
    clear p F;go_wp2_with(first|(go_at_call 71;(with_reducible refine ag (G.out _) ?_);rintro e u5 ⟨rfl,j⟩;obtain rfl:=j.symm)|(go_at_call 71;(with_reducible refine ag (X.out _) ?_);rintro e u5 ⟨rfl,j⟩;obtain rfl:=j.symm)|(go_at_call 72;refine ag NM.out ?_;rintro e u6 ⟨m,r,v,rfl,T⟩)|(go_at_call 73;refine ag (PL.out _ _ _ _ T.out.1 T.out.2.1) ?_;rintro e u7 ⟨A,rfl,HZ⟩));all_goals refine bodyPost_ret (results_tmp3 rfl _ _ _) rfl ?_;rw[i.out];obtain⟨P,z1,z2,z3,z4⟩:=HZ.out;obtain⟨q1,q2,q3⟩:=T.out;have f:=d.out;have J:=f.trans (q1.mono f.size);have zk:=f.size;have N:=J.size;refine⟨J.grown z3 N (λk hk=>rn),?_⟩;exact .inr ⟨⟨R.1,R.2,hh.1,hh.2⟩,A,P,rfl,z1,z2,dg⟩
   .have G:Hid (∀u,Cw 71 #[Iq w] u λe w'=>e=Rw (.bool true)/\w'=u):=λu=>by have:=p w u;grind
    have X:Hid (∀u,Cw 71 #[Iq h] u λe w'=>e=Rw (.bool false)/\w'=u):=λu=>by have:=p h u;grind
    clear p F V;go_wp2_with(first|(go_at_call 71;(with_reducible refine ag (G.out _) ?_);rintro e u5 ⟨rfl,j⟩;obtain rfl:=j.symm)|(go_at_call 71;(with_reducible refine ag (X.out _) ?_);rintro e u5 ⟨rfl,j⟩;obtain rfl:=j.symm));all_goals refine bodyPost_ret (results_tmp3 rfl _ _ _) rfl ?_;rw[i.out];exact⟨d,.inl ⟨λq=>hh ⟨q.2.2.1,q.2.2.2⟩,rfl⟩⟩
  .have G:Hid (∀u,Cw 71 #[Iq w] u λe w'=>e=Rw (.bool false)/\w'=u):=λu=>by have:=p w u;grind
   clear p F V;go_wp2_with(go_at_call 71;refine ag (G _) ?_;rintro e u5 ⟨rfl,j⟩;obtain rfl:=j.symm);all_goals refine bodyPost_ret (results_tmp3 rfl _ _ _) rfl ?_;rw[i.out];exact⟨d,.inl ⟨λq=>R ⟨q.1,q.2.1⟩,rfl⟩⟩
def frK(W H:Nat)(L:zza)(P:zzj):Nat->Nat->Nat->Ce
 |0=>λ_ _=>bk 0 0 0
 |k+1=>BV W H (sty L k).1 (sty L k).2.1 (sty L k).2.2 (P k 4) (P k 5) (P k 6) (P k 7) (ae L k).kind (au (ae L k) 6) (au (ae L k) 7) (au (ae L k) 8) (au (ae L k) 10) (ae L k).text (P k 0) (P k 1) (P k 2) (P k 3) (frK W H L P k)
def pq{W H}{Q:(Nat->Nat->Ce)->Prop}{L}{P}(j:Q (λ_ _=>bk 0 0 0))(l:∀c x y w hh f g a e h b d,Q c->Q (oj W H c x y w hh f g a e h b d))(m:∀f g a e h b d x y s c,Q c->Q (wrL W H f g a e h b d x y s c)):∀k,Q (frK W H L P k)
 |0=>j
 |k+1=>IV (λc i=>l c _ _ _ _ _ _ _ _ _ _ _ i) (λx y s c i=>m _ _ _ _ _ _ _ x y s c i) (pq j l m k)
def PAll.blank W H:PAll W H (λ_ _=>bk 0 0 0):=λy hy=>⟨λi hi=>.inl rfl,λi hi h=>(by cases h),λi hi h=>(by cases h)⟩
def PAll.frK{W H:Nat}(d:1<=W/\W<=400)(b:1<=H/\H<=400)(L:zza)(P:zzj)(k:Nat):PAll W H (frK W H L P k):=
 pq (Q:=PAll W H) (PAll.blank W H) (λc _ _ _ _ _ _ _ _ _ _ _ a=>a.filX d b _ _ _ _ _ _ _ _ _ _ _) (λ_ _ _ _ _ _ _ _ _ _ c a=>a.wrL d b _ _ _ _ _ _ _ _ _ _) k
def SK(U U':AT)(w h:Int)(eW off:zzb)(sn:Nat)(Wd:zzb)(Hf:zzg)(r:Except (Option (Nat×Nat)) (List Nd))(e:Ending):Prop:=Bq U U'/\match r with
 |.error x=>e=Rw (.tuple #[.slice none 0 0,Iq (gG x:Int),Iq (mC x:Int)])
 |.ok L=>(¬(1<=w/\w<=400/\1<=h/\h<=400)/\e=Rw (.tuple #[.slice none 0 0,Iq 6,Iq 0]))\/∃W H:Nat,w=W/\h=H/\(1<=W/\W<=400)/\(1<=H/\H<=400)/\∃N cap P,cI L Wd Hf w h eW off sn P L.length/\e=Rw (.tuple #[Sq N (W*H) cap,Iq 0,Iq 0])/\Cv 46 U' N W H (frK W H L P L.length)/\U.heap.size<=N/\W*H<=cap/\cap<=9223372036854775807
def R8(u:AT)(B K:Nat)(f0 f1 f2 c0 c1 c2 c3:Int):Prop:=u.heap[B]?=some (.cells #[Pq K,Iq f0,Iq f1,Iq f2,Iq c0,Iq c1,Iq c2,Iq c3] 148 (0,0))
def bM.drewn{M}{W a}(h:bM M W a):bM M W a.drew:=⟨h.os,h.tape,h.output,h.size,h.block⟩
section
variable{u:AT} {B K:Nat} {f0 f1 f2 c0 c1 c2 c3:Int}
def R8.s1(h:R8 u B K f0 f1 f2 c0 c1 c2 c3)v:R8 (u.setCell (aq B 1) (.int .i64 v)) B K v f1 f2 c0 c1 c2 c3:=heap_setCell_same _ B 1 _ _ _ h
def R8.s2(h:R8 u B K f0 f1 f2 c0 c1 c2 c3)v:R8 (u.setCell (aq B 2) (.int .i64 v)) B K f0 v f2 c0 c1 c2 c3:=heap_setCell_same _ B 2 _ _ _ h
def R8.s3(h:R8 u B K f0 f1 f2 c0 c1 c2 c3)v:R8 (u.setCell (aq B 3) (.int .i64 v)) B K f0 f1 v c0 c1 c2 c3:=heap_setCell_same _ B 3 _ _ _ h
def R8.s4(h:R8 u B K f0 f1 f2 c0 c1 c2 c3)v:R8 (u.setCell (aq B 4) (.int .i64 v)) B K f0 f1 f2 v c1 c2 c3:=heap_setCell_same _ B 4 _ _ _ h
def R8.s5(h:R8 u B K f0 f1 f2 c0 c1 c2 c3)v:R8 (u.setCell (aq B 5) (.int .i64 v)) B K f0 f1 f2 c0 v c2 c3:=heap_setCell_same _ B 5 _ _ _ h
def R8.s6(h:R8 u B K f0 f1 f2 c0 c1 c2 c3)v:R8 (u.setCell (aq B 6) (.int .i64 v)) B K f0 f1 f2 c0 c1 v c3:=heap_setCell_same _ B 6 _ _ _ h
def R8.s7(h:R8 u B K f0 f1 f2 c0 c1 c2 c3)v:R8 (u.setCell (aq B 7) (.int .i64 v)) B K f0 f1 f2 c0 c1 c2 v:=heap_setCell_same _ B 7 _ _ _ h
def R8.dr(h:R8 u B K f0 f1 f2 c0 c1 c2 c3):R8 u.drew B K f0 f1 f2 c0 c1 c2 c3:=h
def R8.seven(h:R8 u B K f0 f1 f2 c0 c1 c2 c3)a b c d e f g:R8 (((((((u.setCell (aq B 1) (.int .i64 a)).setCell (aq B 2) (.int .i64 b)).setCell (aq B 3) (.int .i64 c)).setCell (aq B 4) (.int .i64 d)).setCell (aq B 5) (.int .i64 e)).setCell (aq B 6) (.int .i64 f)).setCell (aq B 7) (.int .i64 g)).drew B K a b c d e f g:=
 (((((((h.s1 a).s2 b).s3 c).s4 d).s5 e).s6 f).s7 g).dr
end
def Ep(t:BY)(w h:Int)(sp:zze)(sn sc:Nat)(zu off:zzb)(E:zzi)(U:AT)(hG:qK U E)(hA:ee U E)(hE:qJ U)(ht:aY U)(Sv:og U sp sn zu off)(TW:sn<=4611686018427387904)(Sw:∀a:Addr,sp=some a->a.block<U.heap.size)(Wd:zzb)(Hf:zzg)(zU:∀L,bv t=.ok L->Sz L Wd Hf):
 Cw 33 #[.string t,Iq w,Iq h,.slice sp sn sc] U λe U'=>SK U U' w h zu off sn Wd Hf (bv t) e:=by
 have LY:=qH<|layout_at t w h sp sn sc zu off E U hG hA hE ht Sv TW Sw Wd Hf zU;clear zU;cases hp:bv t with
 |error x=>
  rw[hp]at LY;have hx:(gG x:Int)≠0:=by have:=lH hp;omega
  obtain⟨c,hc⟩:∃z:Int,(gG x:Int)=z:=⟨_,rfl⟩;obtain⟨d,hd⟩:∃z:Int,(mC x:Int)=z:=⟨_,rfl⟩;have V:Hid (Cw 36 #[.string t,Iq w,Iq h,.slice sp sn sc] U λe J=>e=Rw (.tuple #[.slice none 0 0,Iq c,Iq d])/\Hid (Bq U J)):=LY.mono λe w' q=>⟨by have:=q.2;grind,q.1⟩;have _X:(c==0)=false:=by rw[<-hc];simpa using hx
  have HC:=qH hc;have HD:=qH hd;clear LY hc hd hx;go_enter func33,ntmps33;go_wp2_with(go_at_call 36;refine Ut V ?_;rintro U1 O);refine bodyPost_ret (results_tmp3 rfl _ _ _) rfl ?_;refine⟨O,?_⟩;dsimp only;rw[HC.out,HD.out];rfl
 |ok L=>
  rw[hp]at LY;by_cases hr:1<=w/\w<=400/\1<=h/\h<=400;case neg=>
   have V:Hid (Cw 36 #[.string t,Iq w,Iq h,.slice sp sn sc] U λe J=>e=Rw (.tuple #[.slice none 0 0,Iq 6,Iq 0])/\Hid (Bq U J)):=LY.mono λe w' q=>by
    obtain⟨hb,q⟩:=q;rcases q with⟨_,q⟩|⟨q,_⟩;.exact⟨q,hb⟩
    .exact absurd q hr
   clear LY;go_enter func33,ntmps33;go_wp2_with(go_at_call 36;refine Ut V ?_;rintro U1 O);refine bodyPost_ret (results_tmp3 rfl _ _ _) rfl ?_;exact⟨O,.inl ⟨hr,rfl⟩⟩
  have hT:=ea (de hp);have zV:=hT.vl.cnt;have TI:=hT.pos;obtain⟨W,rfl⟩:∃W:Nat,w=(W:Int):=⟨w.toNat,dg⟩;obtain⟨H,rfl⟩:∃H:Nat,h=(H:Int):=⟨h.toNat,dg⟩;have hW:1<=W/\W<=400:=dg;have hH:1<=H/\H<=400:=dg;have HT:=qH hT;have V:Hid (Cw 36 #[.string t,Iq W,Iq H,.slice sp sn sc] U λe J=>∃F,e=Rw (.tuple #[Sq F L.length L.length,Iq 0,Iq 0])/\Hid (Bq U J)/\∃P,Hid (cI L Wd Hf W H zu off sn P L.length)/\Hid (J.rowIs F 95 (L.length*10) (ss P))):=LY.mono λe J q=>by
   obtain⟨hb,q⟩:=q;rcases q with⟨q,_⟩|⟨_,F,P,q2,q3,q4,_⟩;.exact absurd hr q
   .exact⟨F,q2,hb,P,q4,q3⟩
  have zS:Hid (∀u,Bq U u->Cw 29 #[.string t] u λe w'=>∃g s KV,e=Rw (.tuple #[Sq g L.length s,Iq 0,Iq 0])/\Hid (Kh w' w'.heap.size g L KV)/\Hid (u.heap.size<=g)/\Hid (Bq u w')):=λu hu=>by
   have:=tparse_any t E u (hG.cells hu) (hA.below hu) (hE.below hu);rw[hp]at this;refine this.mono λe w' q=>?_;obtain⟨hb,nv,KV,rfl,hn⟩:=q;obtain⟨g,s,rfl,Zf⟩:∃g s,nv=Sq g L.length s/\u.heap.size<=g:=by obtain⟨xs,hx⟩:=hn.nr.row;grind[cm]
   exact⟨g,s,KV,rfl,hn.ndv LE,Zf,hb⟩
  have ST:Hid (∀u r g s KV,Kh u r g L KV->Cw 61 #[Sq g L.length s] u λe J=>∃sb,e=Rw (Sq sb L.length L.length)/\Hid (fB J sb 0 L.length (λj=>(sty L j).1) (λj=>(sty L j).2.1) (λj=>(sty L j).2.2))/\Hid (u.heap.size<=sb)/\Hid (Bq u J)):=λu r g s KV hv=>ud HT.gr.upl zV u r g s hv;have NW:Hid (∀u,Cw 60 #[Iq W,Iq H] u λe J=>∃K M,e=Rw (.tuple #[Pq K,Iq 0])/\Hid (CS 196 46 J K M (W*H) W H (λ_ _=>bk 0 0 0))/\Hid (u.heap.size<=K/\u.heap.size<=M)/\Hid (Bq u J)):=λu=>(Po W H u hW hH).mono λe J ⟨K,M,h1,h2,h3,h4,h5⟩=>⟨K,M,h1,h2,⟨h3,h4⟩,h5⟩;have WU:=qH ht;clear LY hp hG hA hE Sv Sw ht hT;go_enter func33,ntmps33;go_wp2_with(first
   |(go_at_call 36;refine V.mono ?_;rintro e u1 ⟨F,rfl,O,P,zA,zq⟩)
   |(go_at_call 29;refine ag (zS _ O) ?_;rintro e u2 ⟨g,s,KV,rfl,zx,Wr,zj⟩)
   |(go_at_call 60;refine ag (NW _) ?_;rintro e u3 ⟨K,M,rfl,C,zn,Z⟩;have zo:=qH<|zx.grown (aa Z))
   |(go_at_call 61;refine ag (ST _ _ _ _ _ zo) ?_;rintro e u4 ⟨sb,rfl,zC,zO,HB4⟩)
   |fail);obtain⟨B,hB⟩:=af u4.heap.size;obtain⟨u5,zi⟩:=af (u4.alloc (.cells #[Pq K,Iq 0,Iq 0,Iq 0,Iq 0,Iq 0,Iq 0,Iq 0] 148));have WM:Hid (R8 u5 B K 0 0 0 0 0 0 0):=by rw[<-zi,<-hB];exact heap_alloc_new _ _
  have zm:Hid (Gr u4 u5):=by rw[<-zi];exact(Gr.refl u4).alloc _
  have XK:=zj.size;have _G:=Z.size;have zD:=HB4.size;have XJ:=O.size;have R:=qH<|O.trans (zj.mono XJ);have zQ:=qH<|R.trans (Z.mono dg);have zR:=qH<|zQ.trans (HB4.mono dg);have WV:=qH<|zR.trans (zm.below.mono dg);have zE:K<B:=by rw[<-hB];exact zz006 C.klt zD
  have XR:M<B:=by rw[<-hB];exact zz006 C.cv.lt zD
  have XU:U.heap.size<=B:=by rw[<-hB];omega
  have zF:U.heap.size<=M:=by have:=zn.out.2;omega
  have Y:=qH<|HB4.trans (zm.below.mono zD);have G:Hid (CS 196 46 u5 K M (W*H) W H (λ_ _=>bk 0 0 0)):=⟨(Y.block K C.klt).trans C.kb,C.cv.keep (Y.block M C.cv.lt),C.ne,C.hc⟩;have zy:=qH<|zo.grown (aa Y);have So:g<B:=by rw[<-hB];have:=zo.gl;omega
  have Yh:g≠M:=by have:=zx.gl;have:=zn.out.2;omega
  have WX:=qH<|zC.below zm.below;have Y_:sb<B:=by rw[<-hB];exact zC.1
  have Y6:sb≠M:=by have:=zO.out;have:=C.cv.lt;omega
  have Qc:=qH<|rowIs_below zq ((zj.trans (Z.mono XK)).trans (Y.mono dg));have TH:F<B:=by rw[<-hB];have:=zq.lt;omega
  have St:F≠M:=by have:=zq.lt;have:=zn.out.2;omega
  have H5:Hid (u5.heap.size=B+1):=qH<|by rw[<-zi,ai,hB]
  rw[zi,hB];obtain⟨n,hn⟩:=af L.length;have zL:=qH hn;have Vx:n<=100:=dg;rw[hn];clear hn;clear O zj Z HB4 zx zo C zn zC zO zq zm R zQ zR Y zi hB V zS ST NW Wr;go_loopw[54] (λiv wr=>∃k:Nat,k<=n/\iv=Iq (k:Int)/\Hid (Cv 46 wr M W H (frK W H L P k))/\Hid (Bq U wr)/\Hid (∀b,b<B->b≠M->wr.heap[b]?=u5.heap[b]?)/\Hid (B<wr.heap.size)/\∃f0 f1 f2 c0 c1 c2 c3,Hid (R8 wr B K f0 f1 f2 c0 c1 c2 c3)) (λiv _=>n-(intOf iv).toNat);.exact⟨0,LT,rfl,G.cv,WV,λb _ _=>rfl,by show _<_;rw[H5.out];omega,_,_,_,_,_,_,_,WM⟩
  obtain⟨k,hk,rfl,HV,HU,S,zk,f0,f1,f2,c0,c1,c2,c3,HR⟩:=hrel;by_cases Sp:k<n
  .have GO:(k:Int)<(n:Int):=dg;have Q:k<L.length:=by have:=zL.out;omega
   have f:=qH<|λt v hv=>(aQ (a:=(aq g (k*16+t))) (S g So Yh)).trans (zy.nd k Q t v hv);rw[iE (zy.len k Q)]at f;obtain⟨pk,ck,zZ,_⟩:=zy.kid k Q;have zP:Hid (wr.cell? (aq sb (k*3))=some (Iq (sty L k).1)/\wr.cell? (aq sb (k*3+1))=some (Iq (sty L k).2.1)/\wr.cell? (aq sb (k*3+2))=some (Iq (sty L k).2.2)):=by have q:=WX.2 k Q;rw[b_]at q;have e:=λo=>aQ (a:=(aq sb o)) (S sb Y_ Y6);exact⟨(e _).trans q.1,(e _).trans q.2.1,(e _).trans q.2.2⟩
   have I:=qH<|λt ht=>(aQ (a:=(aq F (k*10+t))) (S F TH St)).trans (bj Qc Q ht);have zh:=zA.bd k Q;have X:=zA.onScr HT dg dg (k+1) k dg Q;have TY:=HT.vl.tl k Q;have QZ:=HT.sz;have i:Hid (frK W H L P (k+1)=BV W H (sty L k).1 (sty L k).2.1 (sty L k).2.2 (P k 4) (P k 5) (P k 6) (P k 7) (ae L k).kind (au (ae L k) 6) (au (ae L k) 7) (au (ae L k) 8) (au (ae L k) 10) (ae L k).text (P k 0) (P k 1) (P k 2) (P k 3) (frK W H L P k)):=rfl;rw[zZ]at f;have y0:wr.cell? (aq F (k*10))=some (Iq (P k 0)):=I 0 dg;have y1:=I 1 dg;have y2:=I 2 dg;have y3:=I 3 dg;have y4:=I 4 dg;have y5:=I 5 dg;have y6:=I 6 dg;have y7:=I 7 dg;obtain⟨zH,zI,zJ⟩:=zP.out;unfold AJ at X;generalize P k 0=p0 at y0 i zh;generalize P k 1=p1 at y1 i zh;generalize P k 2=p2 at y2 i zh;generalize P k 3=p3 at y3 i zh;generalize P k 4=p4 at y4 i X;generalize P k 5=p5 at y5 i X;generalize P k 6=p6 at y6 i X;generalize P k 7=p7 at y7 i X;generalize(sty L k).1=s0 at zH i;generalize(sty L k).2.1=s1 at zI i;generalize(sty L k).2.2=s2 at zJ i;generalize((ae L k).kind:Int)=kd at f i;generalize au (ae L k) 0=a0 at f;generalize au (ae L k) 1=a1 at f;generalize au (ae L k) 2=a2 at f;generalize au (ae L k) 3=a3 at f;generalize au (ae L k) 4=a4 at f;generalize au (ae L k) 5=a5 at f;generalize au (ae L k) 6=a6 at f i;generalize au (ae L k) 7=a7 at f i;generalize au (ae L k) 8=a8 at f i;generalize au (ae L k) 9=a9 at f;generalize au (ae L k) 10=b0 at f i;generalize au (ae L k) 11=b1 at f;generalize(ae L k).up=up at f;generalize(ae L k).kids.length=kl at f;obtain⟨tx,zt⟩:∃z:BY,⟨(ae L k).text.toArray⟩=z:=⟨_,rfl⟩;have TX:tx.data.toList=(ae L k).text:=by rw[<-zt]
   have Zd:tx.size<=100000:=by rw[<-zt];show(ae L k).text.toArray.size<=_;rw[iS];omega
   rw[zt]at f;rw[<-TX]at i;have q0:wr.cell? (aq g (k*16))=some (Iq kd):=f 0 _ rfl;have q1:=f 1 _ rfl;have q2:=f 2 _ rfl;have q3:=f 3 _ rfl;have q4:=f 4 _ rfl;have q5:=f 5 _ rfl;have q6:=f 6 _ rfl;have q7:=f 7 _ rfl;have q8:=f 8 _ rfl;have q9:=f 9 _ rfl;have VR:=f 10 _ rfl;have VT:=f 11 _ rfl;have VU:=f 12 _ rfl;have VV:=f 13 _ rfl;have VW:=f 14 _ rfl;have VX:=f 15 _ rfl;obtain⟨A,hA⟩:=af wr.heap.size;obtain⟨p,zG⟩:=af (wr.alloc (.cells #[Iq kd,Iq a0,Iq a1,Iq a2,Iq a3,Iq a4,Iq a5,Iq a6,Iq a7,Iq a8,Iq a9,Iq b0,Iq b1,.string tx,.slice pk kl ck,Iq up] 140));have l:Hid (Gr wr p):=by rw[<-zG];exact(Gr.refl wr).alloc _
   have Vw:p.heap[A]?=some (.cells #[Iq kd,Iq a0,Iq a1,Iq a2,Iq a3,Iq a4,Iq a5,Iq a6,Iq a7,Iq a8,Iq a9,Iq b0,Iq b1,.string tx,.slice pk kl ck,Iq up] 140 (0,0)):=by rw[<-zG,<-hA];exact heap_alloc_new _ _
   have y:R8 p B K f0 f1 f2 c0 c1 c2 c3:=(l.block zk).trans HR;have _L:B<A:=by rw[<-hA];exact zk
   have x0:=ez l.below y0;have x1:=ez l.below y1;have x2:=ez l.below y2;have x3:=ez l.below y3;have x4:=ez l.below y4;have x5:=ez l.below y5;have x6:=ez l.below y6;have x7:=ez l.below y7;have v0:=ez l.below zH;have v1:=ez l.below zI;have v2:=ez l.below zJ;have r0:p.cell? (aq B 0)=some (Pq K):=by rw[Lib.cell_of_heap (show p.heap[B]?=_ from y)];rfl
   have r1:p.cell? (aq B 1)=some (Iq f0):=by rw[Lib.cell_of_heap (show p.heap[B]?=_ from y)];rfl
   have r2:p.cell? (aq B 2)=some (Iq f1):=by rw[Lib.cell_of_heap (show p.heap[B]?=_ from y)];rfl
   have r3:p.cell? (aq B 3)=some (Iq f2):=by rw[Lib.cell_of_heap (show p.heap[B]?=_ from y)];rfl
   have r4:p.cell? (aq B 4)=some (Iq c0):=by rw[Lib.cell_of_heap (show p.heap[B]?=_ from y)];rfl
   have r5:p.cell? (aq B 5)=some (Iq c1):=by rw[Lib.cell_of_heap (show p.heap[B]?=_ from y)];rfl
   have r6:p.cell? (aq B 6)=some (Iq c2):=by rw[Lib.cell_of_heap (show p.heap[B]?=_ from y)];rfl
   have r7:p.cell? (aq B 7)=some (Iq c3):=by rw[Lib.cell_of_heap (show p.heap[B]?=_ from y)];rfl
   have Vj:∀j,p.frozen? (aq B j)=false:=λj=>frozen_of_row _ _ _ _ _ y;have zM:=qH y;have zw:=qH Vw;clear f zZ zt TX zP I HR y Vw TY;go_wp2_with fail;clear zG hA q0 q1 q2 q3 q4 q5 q6 q7 q8 q9 VR VT VU VV VW VX y0 y1 y2 y3 y4 y5 y6 y7 zH zI zJ;go_region;obtain⟨W2,zr⟩:=af (((((((p.setCell (aq B 1) (.int .i64 s0)).setCell (aq B 2) (.int .i64 s1)).setCell (aq B 3) (.int .i64 s2)).setCell (aq B 4) (.int .i64 p4)).setCell (aq B 5) (.int .i64 p5)).setCell (aq B 6) (.int .i64 p6)).setCell (aq B 7) (.int .i64 p7)).drew;have zN:Hid (R8 W2 B K s0 s1 s2 p4 p5 p6 p7):=by rw[<-zr];exact zM.seven s0 s1 s2 p4 p5 p6 p7
   have HC2:Hid (bM B p W2):=by rw[<-zr];exact((((((((bM.refl B p).set (.inl rfl) 1 _).set (.inl rfl) 2 _).set (.inl rfl) 3 _).set (.inl rfl) 4 _).set (.inl rfl) 5 _).set (.inl rfl) 6 _).set (.inl rfl) 7 _).drewn
   rw[zr];clear zr;have D:=qH<|(aj.1 zw).1;have T:=qH HC2.size;have zv:Hid (∀b,b<B->W2.heap[b]?=wr.heap[b]?):=λb hb=>(HC2.block b (by have:=D.out;omega) dg).trans (l.block (by have:=zk.out;omega));have R:=qH<|HC2.low XU (by have:=D.out;omega) (HU.trans (l.below.mono (by have:=zk.out;omega)));have zl:Hid (CS 196 46 W2 K M (W*H) W H (frK W H L P k)):=⟨(zv K zE).trans ((S K zE G.ne).trans G.kb),HV.keep (zv M XR),G.ne,G.hc⟩;have HS:Hid (∀u,bM M W2 u->u.cell? (aq B 0)=some (Pq K)/\u.cell? (aq B 1)=some (Iq s0)/\u.cell? (aq B 2)=some (Iq s1)/\u.cell? (aq B 3)=some (Iq s2)/\u.cell? (aq B 4)=some (Iq p4)/\u.cell? (aq B 5)=some (Iq p5)/\u.cell? (aq B 6)=some (Iq p6)/\u.cell? (aq B 7)=some (Iq p7)/\u.cell? (aq A 0)=some (Iq kd)/\u.cell? (aq A 1)=some (Iq a0)/\u.cell? (aq A 2)=some (Iq a1)/\u.cell? (aq A 3)=some (Iq a2)/\u.cell? (aq A 4)=some (Iq a3)/\u.cell? (aq A 5)=some (Iq a4)/\u.cell? (aq A 6)=some (Iq a5)/\u.cell? (aq A 7)=some (Iq a6)/\u.cell? (aq A 8)=some (Iq a7)/\u.cell? (aq A 9)=some (Iq a8)/\u.cell? (aq A 10)=some (Iq a9)/\u.cell? (aq A 11)=some (Iq b0)/\u.cell? (aq A 12)=some (Iq b1)/\u.cell? (aq A 13)=some (.string tx)/\u.cell? (aq A 14)=some (.slice pk kl ck)/\u.cell? (aq A 15)=some (Iq up)/\u.cell? (aq F (k*10))=some (Iq p0)/\u.cell? (aq F (k*10+1))=some (Iq p1)/\u.cell? (aq F (k*10+2))=some (Iq p2)/\u.cell? (aq F (k*10+3))=some (Iq p3)):=λu hu=>by
    have e1:=(hu.block B (by have:=D.out;have:=T.out;omega) dg).trans zN;have e2:=(hu.block A (by have:=D.out;have:=T.out;omega) dg).trans ((HC2.block A D dg).trans zw);have e3:=λo=>aQ (a:=(aq F o)) ((hu.block F (by have:=D.out;have:=T.out;omega) St).trans (HC2.block F (by have:=D.out;omega) dg));refine⟨?_,?_,?_,?_,?_,?_,?_,?_,?_,?_,?_,?_,?_,?_,?_,?_,?_,?_,?_,?_,?_,?_,?_,?_,(e3 _).trans x0,(e3 _).trans x1,(e3 _).trans x2,(e3 _).trans x3⟩;all_goals first
     |(rw[Lib.cell_of_heap e1];rfl)
     |(rw[Lib.cell_of_heap e2];rfl)
   have PA:Hid (∀u,u=W2\/u=W2.drew->Cw 62 #[.agg #[Pq K,Iq s0,Iq s1,Iq s2,Iq p4,Iq p5,Iq p6,Iq p7],.agg #[Iq kd,Iq a0,Iq a1,Iq a2,Iq a3,Iq a4,Iq a5,Iq a6,Iq a7,Iq a8,Iq a9,Iq b0,Iq b1,.string tx,.slice pk kl ck,Iq up],.agg #[Iq p0,Iq p1,Iq p2,Iq p3]] u λe J=>e=Rw (.tuple #[])/\Hid (Cv 46 J M W H (frK W H L P (k+1)))/\Hid (bM M W2 J)):=λu hu=>by
    have zX:bM M W2 u:=by rcases hu with rfl|rfl<;>first|exact bM.refl _ _|exact(bM.refl _ _).drewn
    have zY:∀b:Nat,u.heap[b]?=W2.heap[b]?:=by rcases hu with rfl|rfl<;>exact λ_=>rfl
    rw[i.out];refine(En U u (K:=K) (M:=M) (cap:=W*H) ⟨(zY K).trans zl.kb,zl.cv.keep (zY M),zl.ne,zl.hc⟩ hW hH (PAll.frK hW hH L P k) WU (zX.low zF (by have:=R.size;omega) R) zF s0 s1 s2 p4 p5 p6 p7 kd a0 a1 a2 a3 a4 a5 a6 a7 a8 a9 b0 b1 up tx (.slice pk kl ck) p0 p1 p2 p3 Zd ?_ ?_ ?_ ?_ ?_ ?_).mono λe J q=>⟨q.1,q.2.1,zX.trans q.2.2⟩;all_goals omega
   obtain⟨g0,g1,g2,g3,g4,g5,g6,g7,g8,g9,_q,_r,_s,_t,_u,g15,g16,g17,g18,g19,_v,_w,_x,_y,_z,_A,_B,_C⟩:=HS W2 (bM.refl _ _);clear x0 x1 x2 x3 x4 x5 x6 x7 v0 v1 v2 r0 r1 r2 r3 r4 r5 r6 r7 Vj i zw zM QZ X zh;go_wp2_with fail;go_region_held(λm=>m.cell? (aq B 0)=some (Pq K)/\m.cell? (aq B 1)=some (Iq s0)/\m.cell? (aq B 2)=some (Iq s1)/\m.cell? (aq B 3)=some (Iq s2)/\m.cell? (aq B 4)=some (Iq p4)/\m.cell? (aq B 5)=some (Iq p5)/\m.cell? (aq B 6)=some (Iq p6)/\m.cell? (aq B 7)=some (Iq p7)/\m.cell? (aq A 0)=some (Iq kd)/\m.cell? (aq A 1)=some (Iq a0)/\m.cell? (aq A 2)=some (Iq a1)/\m.cell? (aq A 3)=some (Iq a2)/\m.cell? (aq A 4)=some (Iq a3)/\m.cell? (aq A 5)=some (Iq a4)/\m.cell? (aq A 6)=some (Iq a5)/\m.cell? (aq A 7)=some (Iq a6)/\m.cell? (aq A 8)=some (Iq a7)/\m.cell? (aq A 9)=some (Iq a8)/\m.cell? (aq A 10)=some (Iq a9)/\m.cell? (aq A 11)=some (Iq b0)/\m.cell? (aq A 12)=some (Iq b1)/\m.cell? (aq A 13)=some (.string tx)/\m.cell? (aq A 14)=some (.slice pk kl ck)/\m.cell? (aq A 15)=some (Iq up)/\m.cell? (aq F (k*10))=some (Iq p0)/\m.cell? (aq F (k*10+1))=some (Iq p1)/\m.cell? (aq F (k*10+2))=some (Iq p2)/\m.cell? (aq F (k*10+3))=some (Iq p3)) (go_keep) (first|(go_at_call 62;refine ag (PA _ (by first|exact .inl rfl|exact .inr rfl)) ?_;rintro e u6 ⟨rfl,zB,ze⟩;obtain⟨j0,j1,j2,j3,j4,j5,j6,j7,j8,j9,j10,j11,j12,j13,j14,j15,j16,j17,j18,j19,j20,j21,j22,j23,j24,j25,j26,j27⟩:=HS u6 ze));all_goals
    have WO:Hid (R8 u6 B K s0 s1 s2 p4 p5 p6 p7):=(ze.block B (by have:=D.out;have:=T.out;omega) dg).trans zN;have Ww:=qH<|λb h1 h2=>(ze.block b (by have:=D.out;have:=T.out;omega) h2).trans ((zv b h1).trans (S b h1 h2));have WY:Hid (B<u6.heap.size):=by show _<_;have:=ze.size;have:=D.out;have:=T.out;omega
    have WW:=qH<|ze.low zF (by have:=R.size;omega) R;go_wp2;go_roundw;.exact⟨k+1,Sp,by go_num,zB,WW,Ww,WY,_,_,_,_,_,_,_,WO⟩
    .simp[intOf];omega
  .have GO:¬(k:Int)<(n:Int):=dg;obtain rfl:k=n:=dg;have _R:wr.cell? (aq B 0)=some (Pq K):=by rw[Lib.cell_of_heap HR.out];rfl
   have Wm:Hid (CS 196 46 wr K M (W*H) W H (frK W H L P k)):=⟨(S K zE G.ne).trans G.kb,HV,G.ne,G.hc⟩;have CE:Hid (Cw 63 #[Pq K] wr λe w'=>∃N zg,e=Rw (Sq N (W*H) zg)/\Hid (Cv 46 w' N W H (frK W H L P k))/\Hid (wr.heap.size<=N)/\Hid (Bq wr w'/\W*H<=zg/\zg<=9223372036854775807)):=Dr wr Wm hW hH;go_wp2_with(go_at_call 63;refine CE.mono ?_;rintro e u6 ⟨N,zT,rfl,zB,WE,zK⟩);refine bodyPost_ret (results_tmp3 rfl _ _ _) rfl ?_;exact⟨HU.trans (zK.out.1.mono HU.size),.inr ⟨W,H,rfl,rfl,hW,hH,N,zT,P,zA,rfl,by rw[zL.out];exact zB,aA HU.size WE,zK.out.2⟩⟩
def xT.wrL{W H:Nat}(l:1<=W/\W<=400)(k:1<=H/\H<=400)(f g a e i b d x y:Int)(s:zzf){c:zzd}(h:PAll W H c/\xT W H c):PAll W H (wrL W H f g a e i b d x y s c)/\xT W H (wrL W H f g a e i b d x y s c):=by
 unfold Go.Proofs.YtehgehanbnkdiaaGreatDoor.wrL;split;.exact h
 .exact qw W H f g a e i b d (P:=λc=>PAll W H c/\xT W H c) y _ x c (λq m x c j=>⟨j.1.putX l k _ _ _ _ _ _ _ _ _ _ _,j.2.put j.1 l k _ _ _ _ _ _ _ _ _ _ _ (Lm m)⟩) h
def GF{W H:Nat}(d:1<=W/\W<=400)(b:1<=H/\H<=400)(L:zza)(P:zzj)(k:Nat):PAll W H (frK W H L P k)/\xT W H (frK W H L P k):=
 pq (Q:=λc=>PAll W H c/\xT W H c) ⟨PAll.blank W H,λ_ _ _ _=>GI 0 0 0⟩ (λc _ _ _ _ _ _ _ _ _ _ _ a=>⟨a.1.filX d b _ _ _ _ _ _ _ _ _ _ _,a.2.fil a.1 d b _ _ _ _ _ _ _ _ _ _ _⟩) (λ_ _ _ _ _ _ _ _ _ _ c a=>xT.wrL d b _ _ _ _ _ _ _ _ _ _ a) k
