import Derived.Test.YtadhgppeafpdgaaGreatDoorQ44
import Derived.Test.YtadhgppeafpdgaaGreatDoorQ38
import Derived.Test.YtadhgppeafpdgaaGreatDoorQ46
namespace Go.Proofs.YtadhgppeafpdgaaGreatDoor
set_option linter.all false
/--All zic are right. -/
def AO(W H:Nat)(c:Nat->Nat->Ce):Prop:=∀y x,y<H->x<W->AQ (c y x)
theorem AO.fill{W H l r t d:Nat}{c:Nat->Nat->Ce}{x:Nat->Ce}(h:AO W H c)(hp:PAll W H c)(hr:r<=W)(hx:∀j,AQ (x j)):AO W H (fill c l r t d x):=fun y j hy hj=>by
 by_cases ho:t<=y/\y<d/\l<=j/\j<r
 ·have:Go.Proofs.YtadhgppeafpdgaaGreatDoor.fill c l r t d x y j=x j:=by unfold Go.Proofs.YtadhgppeafpdgaaGreatDoor.fill;rw[if_pos ⟨ho.1,ho.2.1⟩,dQ ho.2.2]
  rw[this];exact hx j
 ·rcases Bz hp hr hy hj ho with e|⟨e,_⟩;·rw[e];exact h y j hy hj
  ·rw[e];exact h y j hy hj
theorem AO.put{W H:Nat}{c:Nat->Nat->Ce}(h:AO W H c)(hp:PAll W H c)(hW:1<=W/\W<=400)(hH:1<=H/\H<=400)(x y:Int)(fk:ByteArray)(wd f g b cx cy ca cb:Int):AO W H (iY W H c x y fk wd f g b cx cy ca cb):=by
 have SF:=eF (W:=W) (H:=H) (by omega) (by omega) x y wd 1 cx cy ca cb;unfold iY Ld;split
 ·have h1:=SF.lu;have h2:=SF.l0;refine h.fill hp (by omega) fun j=>?_;unfold putX;split;·exact⟨rr f,rr g,G6 b⟩
  ·unfold xB;split;·split<;>exact⟨rr f,rr g,G6 b⟩
   ·exact⟨rr f,rr g,G6 b⟩
 ·exact h
theorem AO.fil{W H:Nat}{c:Nat->Nat->Ce}(h:AO W H c)(hp:PAll W H c)(hW:1<=W/\W<=400)(hH:1<=H/\H<=400)(x y a b f g bd cx cy ca cb:Int):AO W H (kq W H c x y a b f g bd cx cy ca cb):=by have SF:=eF (W:=W) (H:=H) (by omega) (by omega) x y a b cx cy ca cb;unfold kq;exact h.fill hp (by have:=SF.lu;have:=SF.l0;omega) fun _=>⟨rr f,rr g,G6 bd⟩
theorem AO.wrL{W H:Nat}(hW:1<=W/\W<=400)(hH:1<=H/\H<=400)(f g bd cx cy ca cb x y:Int)(s:List UInt8){c:Nat->Nat->Ce}(h:PAll W H c/\AO W H c):PAll W H (wrL W H f g bd cx cy ca cb x y s c)/\AO W H (wrL W H f g bd cx cy ca cb x y s c):=by
 unfold Go.Proofs.YtadhgppeafpdgaaGreatDoor.wrL;split;·exact h
 ·exact pG W H f g bd cx cy ca cb (P:=fun c=>PAll W H c/\AO W H c) y _ x c (fun q hq x c hc=>⟨hc.1.putX hW hH _ _ _ _ _ _ _ _ _ _ _,hc.2.put hc.1 hW hH _ _ _ _ _ _ _ _ _ _ _⟩) h
theorem Ta{W H:Nat}(hW:1<=W/\W<=400)(hH:1<=H/\H<=400)(L:List Nd)(P:Nat->Nat->Int)(k:Nat):PAll W H (frK W H L P k)/\AO W H (frK W H L P k):=
 oG (Q:=fun c=>PAll W H c/\AO W H c) ⟨PAll.blank W H,fun _ _ _ _=>⟨rfl,rfl,rfl⟩⟩ (fun c _ _ _ _ _ _ _ _ _ _ _ hc=>⟨hc.1.filX hW hH _ _ _ _ _ _ _ _ _ _ _,hc.2.fil hc.1 hW hH _ _ _ _ _ _ _ _ _ _ _⟩) (fun _ _ _ _ _ _ _ _ _ _ c hc=>AO.wrL hW hH _ _ _ _ _ _ _ _ _ _ hc) k
/--zik by row and zfB,one behind GN. -/
def eQ(W:Nat)(c:Nat->Nat->Ce)(i:Nat):Ce:=c (i/W) (i %W)
theorem fX{W x:Nat}(c:Nat->Nat->Ce)(y:Nat)(hx:x<W):eQ W c (y*W+x)=c y x:=by unfold eQ;rw[vF,Rm,I' hx,Rn _ _ (by omega),yi hx,cB]
theorem Zk{W H:Nat}{c:Nat->Nat->Ce}(hp:PAll W H c)(hg:AF W H c)(hs:AO W H c):jJ (eQ W c) W H:=fun y hy i h1 h2=>by
 obtain⟨x,rfl⟩:∃x,i=y*W+x:=⟨i-y*W,by omega⟩;have hx:x<W:=by omega
 have hr:=hp y hy;refine⟨?_,?_,fun q=>?_,fun q=>?_,fun q=>?_⟩;·rw[fX c y hx];exact hs y x hy hx
 ·rw[fX c y hx];exact hr.part x hx
 ·rw[fX c y hx]at q;obtain⟨a,b,d,e,f⟩:=hr.head x hx q;rw[Nat.add_assoc,fX c y hx,fX c y a];exact⟨by omega,b,d,e,f⟩
 ·rw[fX c y hx]at q;obtain⟨k,rfl,a,b⟩:=hr.tail x hx q;rw[show y*W+(k+1)-1=y*W+k by omega,fX c y hx,fX c y (by omega)];exact⟨by omega,a,b⟩
 ·rw[fX c y hx]at q⊢;rcases hg y x hy hx with e|⟨e,_⟩;·exact absurd e q
  ·unfold GL;rw[e,Jj]
/--A zec zV. -/
theorem S_{W H:Nat}(hW:1<=W/\W<=400)(hH:1<=H/\H<=400)(L:List Nd)(P:Nat->Nat->Int)(k:Nat):jJ (eQ W (frK W H L P k)) W H:=
 Zk (BD hW hH L P k).1 (BD hW hH L P k).2 (Ta hW hH L P k).2
theorem DV(K:Kd)(W:Nat)(C:Nat->Ce)(p:LP):∀n,bE K W C C p n=(p,[])
 |0=>rfl
 |n+1=>by unfold bE;rw[if_neg (fun h=>h.1 rfl),DV K W C p n]
theorem JD(W n:Nat)(C:Nat->Ce):jB cJ W n C C sA=[]:=by unfold jB;rw[DV];rfl
end Go.Proofs.YtadhgppeafpdgaaGreatDoor
namespace Go.Proofs.YtadhgppeafpdgaaGreatDoor
open Go.RowKit Go.Sort Go.Proofs.Tryz
set_option linter.all false
theorem xA{W H:Nat}{L:List Nd}{P Q:Nat->Nat->Int}:∀k,(∀i,i<k->∀t,t<10->P i t=Q i t)->frK W H L P k=frK W H L Q k
 |0,_=>rfl
 |k+1,h=>by have hk:=h k (by omega);simp only[frK];rw[xA k (fun i hi=>h i (by omega)),hk 0 (by omega),hk 1 (by omega),hk 2 (by omega),hk 3 (by omega),hk 4 (by omega),hk 5 (by omega),hk 6 (by omega),hk 7 (by omega)]
theorem cQ.offs{L:List Nd}{Wd:Nat->Int}{H:Nat->Int->Int}{w h:Int}{aX off idg ofg:Nat->Int}{sn sm:Nat}{P:Nat->Nat->Int}(hp:cQ L Wd H w h aX off sn P L.length)(he:∀id,jF id aX off sn=jF id idg ofg sm):cQ L Wd H w h idg ofg sm P L.length:=
 ⟨hp.root,fun i a b c=>by have:=hp.sc i a b c;unfold jE at*;rw[he]at this;exact this,hp.no,hp.kr,hp.bd⟩
/--MQ is to be seen of a tree,zcN so. -/
def iH(L:List Nd)(Wd:Nat->Int)(Hf:Nat->Int->Int)(W H:Nat)(mv:Int->Int)(C:Nat->Nat->Ce):Prop:=∃aX off sn P,cQ L Wd Hf W H aX off sn P L.length/\(∀id,jF id aX off sn=mv id)/\C=frK W H L P L.length
section
variable{s:ByteArray} {L:List Nd} {Wd:Nat→Int} {Hf:Nat→Int→Int} {W H:Nat} {mv:Int→Int} {C D:Nat→Nat→Ce}
theorem iH.uniq(hT:gA s L)(h:iH L Wd Hf W H mv C)(h':iH L Wd Hf W H mv D):C=D:=by obtain⟨aX,off,sn,P,h1,h2,rfl⟩:=h;obtain⟨idg,ofg,sm,Q,g1,g2,rfl⟩:=h';exact xA _ fun i hi=>cQ.uniq hT (h1.offs fun id=>(h2 id).trans (g2 id).symm) g1 (i+1) i (by omega) hi
theorem iH.rws(h:iH L Wd Hf W H mv C)(hW:1<=W/\W<=400)(hH:1<=H/\H<=400):jJ (eQ W C) W H:=by obtain⟨aX,off,sn,P,h1,h2,rfl⟩:=h;exact S_ hW hH L P _
end
/--A zpW of cells,made zmt. -/
def NwL(U U':World)(N n cap:Nat):Prop:=U.heap.size<=N/\n<=cap/\cap<=9223372036854775807
set_option maxRecDepth 100000 in
set_option maxHeartbeats 4000000 in
theorem nscreen_any(S r n W H:Nat)(t:ByteArray)(sh:Value)(mv:Int->Int)(E:Nat->Addr)(U:World)(hG:xe U E)(hA:gj U E)(hE:xd U)(ht:aL U)(hS:mP U S W H t r sh)(hM:Mp U r n mv)(hn:n<=4000000000000){L:List Nd}(hp:bJ t=.ok L){Wd:Nat->Int}{Hf:Nat->Int->Int}(hZ:Sz L Wd Hf)(hW:1<=W/\W<=400)(hH:1<=H/\H<=400):
 Cw 14 #[Pq S] U fun e U'=>∃N cap C,e=Rw (Sq N (W*H) cap)/\Hid (Cv 47 U' N W H C)/\Hid (iH L Wd Hf W H mv C)/\Hid (NwL U U' N (W*H) cap)/\Hid (Bt U U'):=by
 have sV:prog.follows .mixedOrders=true:=by kernel_rfl
 have SC:Hid (∀u,Bt U u->Cw 26 #[Pq S] u fun e u'=>∃p k c,e=Rw (.slice p k c)/\Hid (Bt u u')/\Hid (∃aX off,sN u' p k aX off/\(∀a:Addr,p=some a->a.block<u'.heap.size)/\k<=4000000000000/\∀id,jF id aX off k=mv id)):=fun u hu=>by refine(oW S r n W H t sh mv u ((hu.block S hS.lt).trans hS) (hM.below hu hM.lt) hn).mono ?_;rintro e u' ⟨p,k,c,aX,off,q1,q2,q3,q4,q5,q6⟩;exact⟨p,k,c,q1,q6,aX,off,q2,q3,q4,q5⟩
 have FR:Hid (∀u p k c,Bt U u->(∃aX off,sN u p k aX off/\(∀a:Addr,p=some a->a.block<u.heap.size)/\k<=4000000000000/\∀id,jF id aX off k=mv id)->Cw 25 #[.string t,Iq W,Iq H,.slice p k c] u fun e u'=>∃N cap C,e=Rw (.tuple #[Sq N (W*H) cap,Iq 0,Iq 0])/\Hid (Cv 47 u' N W H C)/\Hid (iH L Wd Hf W H mv C)/\Hid (NwL u u' N (W*H) cap)/\Hid (Bt u u')):=fun u p k c hu ⟨aX,off,q2,q3,q4,q5⟩=>by
  refine(La t W H p k c aX off E u (hG.cells hu) (hA.below hu) (hE.below hu) (ht.below hu) q2 (by omega) q3 Wd Hf (fun L' e=>by rw[hp]at e;cases e;exact hZ)).mono ?_;rintro e u' ⟨hb,z⟩;rw[hp]at z;rcases z with⟨z,_⟩|⟨W',H',z0,z1,_,_,N,cap,P,z2,z3,z4,z5⟩;·exact absurd (by omega) z
  ·obtain rfl:W=W':=by omega
   obtain rfl:H=H':=by omega
   exact⟨N,cap,_,z3,z4,⟨aX,off,k,P,z2,q5,rfl⟩,z5,hb⟩
 have HC:Hid (∀u,Bt U u->u.cell? (aq S 0)=some (Iq W)/\u.cell? (aq S 1)=some (Iq H)/\u.cell? (aq S 2)=some (.string t)):=fun u hu=>by obtain⟨c0,c1,c2,_⟩:=mP.cell (W:=u) ((hu.block S hS.lt).trans hS);exact⟨c0,c1,c2⟩
 clear hG hA hE ht hS hM hp hZ;obtain⟨m,hm⟩:=af (W*H);rw[hm]at FR⊢;clear hm;have HD2:=qH<|(ag U.heap.size U).drew;obtain⟨d0,d1,d2⟩:=HC U (ag _ _);go_enter func14,ntmps14;go_wp2_with fail;go_region_held(fun W'=>W'.cell? (aq S 0)=some (Iq W)/\W'.cell? (aq S 1)=some (Iq H)/\W'.cell? (aq S 2)=some (.string t)) (go_keep) (first
  |(go_at_call 26;refine ai (SC _ HD2) ?_;rintro e U3 ⟨p,k,c,rfl,fm,HX⟩;have HC3:=qH<|HD2.trans (fm.mono HD2.size);have m0:=(HC U3 HC3).1;have m1:=(HC U3 HC3).2.1;have m2:=(HC U3 HC3).2.2)
  |(go_at_call 25;refine ai (FR _ _ _ _ HC3 HX) ?_;rintro e U4 ⟨N,cap,C,rfl,VN,HI4,HN4,HB4⟩;have Ah:=qH<|HC3.trans (HB4.mono HC3.size);have n0:=(HC U4 Ah).1;have n1:=(HC U4 Ah).2.1;have n2:=(HC U4 Ah).2.2));all_goals clear m0 m1 m2 n0 n1 n2 d0 d1 d2;go_wp2;go_ret;exact⟨N,cap,C,rfl,VN,HI4,⟨aH HC3.size HN4.out.1,HN4.out.2⟩,Ah⟩
end Go.Proofs.YtadhgppeafpdgaaGreatDoor
namespace Go.Proofs.YtadhgppeafpdgaaGreatDoor
open Go.RowKit Go.Sort Go.Proofs.Tryz
set_option linter.all false
theorem He{Q:World}{M W H:Nat}{c:Nat->Nat->Ce}(h:Cv 47 Q M W H c):CB Q M 0 (H*W) (eQ W c):=by obtain⟨a,ha⟩:=h.arr;refine⟨⟨_,_,ha⟩,h.lt,fun i hi k u hu=>?_⟩;obtain⟨y,x,hy,hx,rfl⟩:=lJ hi;rw[fX c y hx]at hu;have:=h.cell y x hy hx k u hu;rw[show 0+(y*W+x)*5+k=y*W*5+x*5+k by rw[fL];omega];exact this
/--MQ a zX has zk2: nothing,or a zV of its size. -/
inductive Rz(Q:World)(W H:Nat):Value->Option (Nat->Nat->Ce)->Prop
 |no:Rz Q W H (.slice none 0 0) none
 |is {M cap:Nat} {c:Nat->Nat->Ce} (h:Cv 47 Q M W H c) (hr:jJ (eQ W c) W H) (h1:W*H<=cap) (h2:cap<=9223372036854775807):Rz Q W H (Sq M (W*H) cap) (some c)
theorem Rz.keep{Q Q':World}{W H:Nat}{v:Value}{o:Option (Nat->Nat->Ce)}(h:Rz Q W H v o)(hb:∀M n cap:Nat,v=Sq M n cap->M<Q.heap.size->Q'.heap[M]?=Q.heap[M]?):Rz Q' W H v o:=by
 cases h with
 |no=>exact .no
 |is h hr h1 h2=>exact .is (h.keep (hb _ _ _ rfl h.lt)) hr h1 h2
/--Its bytes. -/
def mT(W H:Nat)(o:Option (Nat->Nat->Ce))(C:Nat->Nat->Ce):List UInt8:=match o with
 |none=>[27,91,50,74]++jB cJ W (H*W) (fun _=>A6) (eQ W C) sA
 |some c=>jB cJ W (H*W) (eQ W c) (eQ W C) sA
theorem Gn{W H:Nat}(hW:1<=W/\W<=400)(hH:1<=H/\H<=400){v:Value}{o:Option (Nat->Nat->Ce)}{N cap:Nat}{C:Nat->Nat->Ce}(w:World)(hv:Rz w W H v o)(hC:Cv 47 w N W H C)(hr:jJ (eQ W C) W H)(h1:W*H<=cap)(h2:cap<=9223372036854775807)(ht:aL w)(hg:12<w.heap.size)(Mb:dC w):
 Cw 24 #[v,Iq W,Sq N (W*H) cap,Iq W] w fun e w'=>e=Rw (.tuple #[.string ⟨(mT W H o C).toArray⟩,Iq 0])/\Hid (Bt w w'):=by
 have hc:W*H=H*W:=jc _ _;have hn:W*H<=160000:=pJ hW.2 hH.2;have hN:=He hC;rw[<-hc]at hN;cases hv with
 |no=>
  refine(ua (eQ W C) (eQ W C) 0 W H (W*H) W none N 0 cap w (by omega) (by omega) (by omega) h1 h2 (.inl rfl) hN ht hg Mb (fun i hi=>absurd hi (by omega)) hW hH hc hr).mono ?_;rintro e w' ⟨l,q1,q2,q3⟩;have hl:=q2.out.all fun q=>by have:=q.2.1;have:1<=W*H:=Ji hW.1 hH.1;omega
  rw[hl,hc]at q1;exact⟨q1,q3⟩
 |@is M cp c h hr' k1 k2=>have hO:=He h;rw[<-hc]at hO;refine(ua (eQ W c) (eQ W C) (W*H) W H (W*H) W (some (aq M 0)) N cp cap w (by omega) k1 k2 h1 h2 (.inr ⟨M,rfl,hO⟩) hN ht hg Mb (fun i hi=>aH (hr'.size (by omega)) (by decide)) hW hH hc hr).mono ?_;rintro e w' ⟨l,q1,q2,q3⟩;have hl:=q2.out.one ⟨rfl,rfl,W,H,rfl,hc,hW.1,hW.2,hH.1,hH.2,hr'⟩;rw[hl,hc]at q1;exact⟨q1,q3⟩
theorem Rz.form{Q:World}{W H:Nat}{v:Value}{o:Option (Nat->Nat->Ce)}(h:Rz Q W H v o):∃p k c,v=.slice p k c:=by
 cases h with
 |no=>exact⟨_,_,_,rfl⟩
 |is=>exact⟨_,_,_,rfl⟩
/--MQ zfu leaves. -/
structure ZQ(U U':World)(S r n W H:Nat)(t:ByteArray)(mv:Int->Int)(N cap:Nat)(C:Nat->Nat->Ce):Prop where
 ses:mP U' S W H t r (Sq N (W*H) cap)
 mp:Mp U' r n mv
 cv:Cv 47 U' N W H C
 new:U.heap.size<=N/\W*H<=cap/\cap<=9223372036854775807
 fs:Fs S S U U'
set_option maxRecDepth 100000 in
set_option maxHeartbeats 4000000 in
theorem CZ(S r n W H:Nat)(t:ByteArray)(sh:Value)(o:Option (Nat->Nat->Ce))(mv:Int->Int)(E:Nat->Addr)(U:World)(hG:xe U E)(hA:gj U E)(hE:xd U)(ht:aL U)(hg:12<U.heap.size)(Mb:dC U)(hS:mP U S W H t r sh)(hM:Mp U r n mv)(X':S≠r)(hn:n<=4000000000000){L:List Nd}(hp:bJ t=.ok L){Wd:Nat->Int}{Hf:Nat->Int->Int}(hZ:Sz L Wd Hf)(hW:1<=W/\W<=400)(hH:1<=H/\H<=400)(hsh:Rz U W H sh o):
 Cw 13 #[Pq S] U fun e U'=>∃N cap C,e=Rw (.string ⟨(mT W H o C).toArray⟩)/\iH L Wd Hf W H mv C/\ZQ U U' S r n W H t mv N cap C:=by
 have sV:prog.follows .mixedOrders=true:=by kernel_rfl
 have tB:=qH<|nscreen_any S r n W H t sh mv E U hG hA hE ht hS hM hn hp hZ hW hH;have UP:Hid (∀u N cap C,Bt U u->Cv 47 u N W H C->iH L Wd Hf W H mv C->NwL U u N (W*H) cap->Cw 24 #[sh,Iq W,Sq N (W*H) cap,Iq W] u fun e u'=>e=Rw (.tuple #[.string ⟨(mT W H o C).toArray⟩,Iq 0])/\Hid (Bt u u')):=fun u N cap C hu hC hI hN=>
  Gn hW hH u (hsh.keep fun M n cp _ hM=>hu.block M hM) hC (hI.rws hW hH) hN.2.1 hN.2.2 (ht.below hu) (zz007 hg hu.size) (Mb.below hu hg);obtain⟨p,k,c,rfl⟩:=hsh.form;have vO:Hid (∀u,Bt U u->mP u S W H t r (.slice p k c)):=fun u hu=>(hu.block S hS.lt).trans hS;have LK:Hid (∀u,Bt U u->Mp u r n mv):=fun u hu=>hM.below hu hM.lt;have RL:=qH hS.lt;have zga:=qH X';clear hG hA hE ht Mb hg hS hM hp hZ hsh X';obtain⟨m,hm⟩:=af (W*H);have HMW:=qH hm;rw[hm]at UP tB;clear hm;go_enter func13,ntmps13;go_wp2_with(go_at_call 14;refine tB.mono ?_;rintro e U1 ⟨N,cap,C,rfl,VM,HI1,HN1,HB1⟩);obtain⟨d0,d1,d2,d3,d4,dz⟩:=(vO U1 HB1).cell;have HD1:=qH<|HB1.drew;have HP:Hid (∀u,(u=U1\/u=U1.drew)->Cw 24 #[.slice p k c,Iq W,Sq N m cap,Iq W] u fun e u'=>e=Rw (.tuple #[.string ⟨(mT W H o C).toArray⟩,Iq 0])/\Hid (Bt U u')/\Hid (Cv 47 u' N W H C)):=fun u hu=>by
  have hb:Bt U u:=by rcases hu with rfl|rfl<;>first|exact HB1.out|exact HD1.out
  have hc:Cv 47 u N W H C:=by rcases hu with rfl|rfl<;>exact VM.out.keep rfl
  exact(UP u N cap C hb hc HI1 HN1.out).mono fun e u' q=>⟨q.1,hb.trans (q.2.out.mono hb.size),hc.below q.2⟩
 clear d1 d2 d3 dz;go_region_held(fun W'=>W'.cell? (aq S 0)=some (Iq W)/\W'.cell? (aq S 4)=some (.slice p k c)) (go_keep) (first
  |(go_at_call 24;refine ai (HP _ (by first|exact .inl rfl|exact .inr rfl)) ?_;rintro e U4 ⟨rfl,HB4,VN⟩;have n0:=(vO U4 HB4).cell.1;have n4:=(vO U4 HB4).cell.2.2.2.2.1));all_goals
  clear d0 d4;have nz:=(vO U4 HB4).cell.2.2.2.2.2;go_wp2;go_ret;have hs4:=vO U4 HB4;have bj:¬N=S:=by have:=HN1.out.1;have:=RL.out;omega
  refine⟨N,cap,C,rfl,HI1,⟨?_,?_,?_,?_,?_⟩⟩;·rw[HMW.out];exact heap_setCell_same _ S 4 _ _ _ hs4
  ·exact(LK U4 HB4).block (bv _ (aq S 4) _ r (fun e=>zga.out e.symm))
  ·exact VN.out.keep (bv _ (aq S 4) _ N bj)
  ·rw[HMW.out];exact HN1.out
  ·exact(Fs.of HB4).trans (Fs.set _ _ _)
end Go.Proofs.YtadhgppeafpdgaaGreatDoor
namespace Go.Proofs.YtadhgppeafpdgaaGreatDoor
open Go.RowKit Go.Sort Go.Proofs.Tryz
set_option linter.all false
theorem th{Q Q':World}{T K M cap:Nat}{s:Tm}{nv:Value}(h:TM Q T K M cap s nv)(hT:Q'.heap[T]?=Q.heap[T]?)(hK:Q'.heap[K]?=Q.heap[K]?)(hM:Q'.heap[M]?=Q.heap[M]?):TM Q' T K M cap s nv:=
 ⟨hT.trans h.tb,⟨hK.trans h.cs.kb,h.cs.cv.keep hM,h.cs.ne,h.cs.hc⟩,h.tk,h.tm,h.hW,h.hH,h.pa⟩
/--A zX and a lU;no block is below B. -/
structure fP(B S T:Nat)(Q:World)(W H n r:Nat)(t:ByteArray)(sh:Value)(o:Option (Nat->Nat->Ce))(mv:Int->Int)(L:List Nd)(K M:Nat)(s:Tm):Prop where
 ses:mP Q S W H t r sh
 mp:Mp Q r n mv
 tr:bJ t=.ok L
 shn:Rz Q W H sh o
 tm:TM Q T K M (W*H) s (uh 17 #[])
 ti:Ti s
 eW:s.W=W
 eH:s.H=H
 pl:s.r.f=0/\s.r.g=0/\s.r.b=0
 see:∀c,o=some c->mX s.c W H (eQ W c)
 ne:S≠r/\S≠T/\S≠K/\S≠M/\r≠T/\r≠K/\r≠M
 nb:∀N k c:Nat,sh=Sq N k c->N≠S/\N≠r/\N≠T/\N≠M
 ge:B<=S/\B<=r/\B<=T/\B<=K/\B<=M
section
variable{B S T:Nat} {Q Q' Q1 Q2:World} {W H n r:Nat} {t:ByteArray} {sh:Value} {o:Option (Nat→Nat→Ce)} {mv:Int→Int} {L:List Nd} {K M:Nat} {s:Tm}
theorem fP.hW(h:fP B S T Q W H n r t sh o mv L K M s):1<=W/\W<=400:=by have:=h.tm.hW;rw[h.eW]at this;exact this
theorem fP.hH(h:fP B S T Q W H n r t sh o mv L K M s):1<=H/\H<=400:=by have:=h.tm.hH;rw[h.eH]at this;exact this
/--Nothing of it has zdn. -/
theorem fP.keep(h:fP B S T Q W H n r t sh o mv L K M s)(hb:Bt Q Q'):fP B S T Q' W H n r t sh o mv L K M s:=
 ⟨(hb.block S h.ses.lt).trans h.ses,h.mp.below hb h.mp.lt,h.tr,h.shn.keep fun N _ _ _ hN=>hb.block N hN,h.tm.below hb,h.ti,h.eW,h.eH,h.pl,h.see,h.ne,h.nb,h.ge⟩
/--Sj tree,or GN scroll. -/
theorem fP.put{t':ByteArray}{L':List Nd}{n':Nat}{mv':Int->Int}(h:fP B S T Q W H n r t sh o mv L K M s)(h1:mP Q' S W H t' r sh)(h2:Mp Q' r n' mv')(h3:bJ t'=.ok L')(hf:Fs S r Q Q'):fP B S T Q' W H n' r t' sh o mv' L' K M s:=by obtain⟨n1,n2,n3,n4,n5,n6,n7⟩:=h.ne;refine⟨h1,h2,h3,h.shn.keep fun N k c e hN=>hf.block N hN (h.nb N k c e).1 (h.nb N k c e).2.1,?_,h.ti,h.eW,h.eH,h.pl,h.see,h.ne,h.nb,h.ge⟩;exact th h.tm (hf.block T h.tm.lt (dh n2) (dh n5)) (hf.block K h.tm.cs.klt (dh n3) (dh n6)) (hf.block M h.tm.cs.cv.lt (dh n4) (dh n7))
/--Sj size,of zmx. -/
theorem fP.resized{X Y:Nat}(h:fP B S T Q W H n r t sh o mv L K M s)(hX:1<=X/\X<=400)(hY:1<=Y/\Y<=400)(h1:mP Q1 S X Y t r (.slice none 0 0))(hf:Fs S S Q Q1)(hr:Res Q1 Q2 T X Y):∃K' M',fP B S T Q2 X Y n r t (.slice none 0 0) none mv L K' M' (Mg X Y):=by obtain⟨n1,n2,n3,n4,n5,n6,n7⟩:=h.ne;obtain⟨b1,b2,b3,b4,b5⟩:=h.ge;obtain⟨K',M',k1,k2,k3⟩:=hr.tm;have l1:=h.ses.lt;have l2:=h.mp.lt;have l3:=hf.size;have l4:=h1.lt;refine⟨K',M',(hr.c2.block S l4 n2 n2).trans h1,?_,h.tr,.no,k1,ti0 X Y hY.1,rfl,rfl,⟨rfl,rfl,rfl⟩,fun c e=>(by cases e),⟨n1,n2,by omega,by omega,n5,by omega,by omega⟩,fun N k c e=>(by cases e),⟨b1,b2,b3,by omega,by omega⟩⟩;exact h.mp.block ((hr.c2.block r (by omega) n5 n5).trans (hf.block r l2 (dh n1) (dh n1)))
/--MK,and the lU has read it. -/
theorem fP.rendered{Wd:Nat->Int}{Hf:Nat->Int->Int}{N cap:Nat}{C:Nat->Nat->Ce}{e:Ending}(h:fP B S T Q W H n r t sh o mv L K M s)(hB:B<=Q.heap.size)(hI:iH L Wd Hf W H mv C)(hr:ZQ Q Q1 S r n W H t mv N cap C)(hw:V0 Q1 Q2 e T K M (W*H) (runT (s,.out) (mT W H o C))):e=Rw (.tuple #[])/\∃s',fP B S T Q2 W H n r t (Sq N (W*H) cap) (some C) mv L K M s':=by
 obtain⟨n1,n2,n3,n4,n5,n6,n7⟩:=h.ne;obtain⟨r1,r2,r3⟩:=hr.new;have hR:=hI.rws h.hW h.hH;have hE:Mj (runT (s,.out) (mT W H o C)) W H (eQ W C):=by
  cases hs:h.shn with
  |no=>exact J9 h.hW h.hH hR h.eW h.eH h.pl.1 h.pl.2.1 h.pl.2.2
  |is a b c d=>exact xw h.hW h.hH b hR h.eW h.eH (h.see _ rfl) h.pl.1 h.pl.2.1 h.pl.2.2
 obtain⟨w1,⟨nv,w2,w3⟩,w4,_,w6⟩:=hw;rw[hE.out]at w3;have w3:nv=_:=w3;subst w3;have l1:=h.ses.lt;have l2:=h.mp.lt;have l3:=hr.fs.size;have l4:=h.tm.lt;have l5:=h.tm.cs.cv.lt;refine⟨w1,_,(w6.block S (by omega) n2 n4).trans hr.ses,hr.mp.block (w6.block r (by omega) n5 n7),h.tr,.is (hr.cv.keep (w6.block N hr.cv.lt (by omega) (by omega))) hR r2 r3,w2,w4,hE.eW,hE.eH,⟨hE.f,hE.g,hE.b⟩,fun c e=>?_,h.ne,fun N' k c e=>?_,h.ge⟩;·cases e;exact hE.sh
 ·cases e;exact⟨by omega,by omega,by omega,by omega⟩
end
/--A zV to zhW: no bytes. -/
theorem Lf(W H:Nat)(C:Nat->Nat->Ce):mT W H (some C) C=[]:=JD W (H*W) _
end Go.Proofs.YtadhgppeafpdgaaGreatDoor
namespace Go.Proofs.YtadhgppeafpdgaaGreatDoor
open Go.RowKit Go.Sort Go.Proofs.Tryz
set_option linter.all false
theorem UT{W H:Nat}{o:Option (Nat->Nat->Ce)}{C:Nat->Nat->Ce}(hW:1<=W/\W<=400)(hH:1<=H/\H<=400)(hr:jJ (eQ W C) W H):(mT W H o C).length<=7300000:=by
 have _m:H*W<=400*W:=jw W hH.2;have hnb:H*W<=160000:=by have:=Nat.mul_le_mul_left 400 hW.2;omega
 have key:∀o:Nat->Ce,(jB cJ W (H*W) o (eQ W C) sA).length<=7200015:=fun o=>by unfold jB;have h1:=Ad (old:=o) (n:=H*W) (new:=eQ W C) (p:=sA) hW _m (fun i hi=>hr.sty (by omega)) (H*W) (ae _);have h2:=Gt (old:=o) (n:=H*W) (new:=eQ W C) (fun i hi=>hr.size (by omega)) (H*W) (ae _);have h3:=za (f:=(bE cJ W o (eQ W C) sA (H*W)).1.f) (g:=(bE cJ W o (eQ W C) sA (H*W)).1.g) (b:=(bE cJ W o (eQ W C) sA (H*W)).1.b) (f2:=0) (g2:=0) (b2:=0) ⟨by decide,by decide,by decide⟩;rw[aI];omega
 unfold mT;cases o with
 |none=>show([27,91,50,74]++_:List UInt8).length<=_;rw[aI];have:=key (fun _=>A6);simp;omega
 |some c=>show(jB cJ W (H*W) (eQ W c) (eQ W C) sA).length<=_;have:=key (eQ W c);omega
/--The tables that are laid. -/
structure nH(U:World)(E:Nat->Addr):Prop where
 glo:xe U E
 apart:gj U E
 ert:xd U
 tab:aL U
 tens:dC U
 utf:Aj U
 g1:12<U.heap.size
 g2:10<U.heap.size
theorem nH.below{U Q:World}{E:Nat->Addr}(h:nH U E)(hb:Bt U Q):nH Q E:=
 ⟨h.glo.cells hb,h.apart.below hb,h.ert.below hb,h.tab.below hb,h.tens.below hb h.g1,h.utf.below hb,zz007 h.g1 hb.size,zz007 h.g2 hb.size⟩
section
variable{S T:Nat} {E:Nat→Addr} {U Q:World} {W H n r:Nat} {t:ByteArray} {sh:Value} {o:Option (Nat→Nat→Ce)} {mv:Int→Int} {L:List Nd} {K M:Nat} {s:Tm} {Wd:Nat→Int} {Hf:Nat→Int→Int}
/--zjj again,the lU has not read it: it is the same zV. -/
theorem fP.again{B N cap:Nat}{C:Nat->Nat->Ce}{Q1:World}(h:fP B S T Q W H n r t sh (some C) mv L K M s)(hr:ZQ Q Q1 S r n W H t mv N cap C)(hR:jJ (eQ W C) W H):fP B S T Q1 W H n r t (Sq N (W*H) cap) (some C) mv L K M s:=by
 obtain⟨n1,n2,n3,n4,n5,n6,n7⟩:=h.ne;obtain⟨r1,r2,r3⟩:=hr.new;have l1:=h.ses.lt;have l2:=h.mp.lt;have l4:=h.tm.lt;have l5:=h.tm.cs.cv.lt;refine⟨hr.ses,hr.mp,h.tr,.is hr.cv hR r2 r3,?_,h.ti,h.eW,h.eH,h.pl,h.see,h.ne,fun N' k c e=>?_,h.ge⟩;·exact th h.tm (hr.fs.block T h.tm.lt (dh n2) (dh n2)) (hr.fs.block K h.tm.cs.klt (dh n3) (dh n3)) (hr.fs.block M h.tm.cs.cv.lt (dh n4) (dh n4))
 ·cases e;exact⟨by omega,by omega,by omega,by omega⟩
theorem uY(g:nH U E)(hb:Bt U Q)(h:fP U.heap.size S T Q W H n r t sh o mv L K M s)(hn:n<=4000000000000)(hZ:Sz L Wd Hf):
 Cw 13 #[Pq S] Q fun e Q'=>∃N cap C,e=Rw (.string ⟨(mT W H o C).toArray⟩)/\iH L Wd Hf W H mv C/\ZQ Q Q' S r n W H t mv N cap C/\Bt U Q':=by have q:=g.below hb;refine(CZ S r n W H t sh o mv E Q q.glo q.apart q.ert q.tab q.g1 q.tens h.ses h.mp h.ne.1 hn h.tr hZ h.hW h.hH h.shn).mono ?_;rintro e Q' ⟨N,cap,C,h1,h2,h3⟩;exact⟨N,cap,C,h1,h2,h3,hb.trans (h3.fs.below h.ge.1 h.ge.1 hb.size)⟩
theorem FN(g:nH U E)(hb:Bt U Q)(h:fP U.heap.size S T Q W H n r t sh o mv L K M s)(hn:n<=4000000000000)(hZ:Sz L Wd Hf):
 Cw 14 #[Pq S] Q fun e Q'=>∃N cap C,e=Rw (Sq N (W*H) cap)/\Cv 47 Q' N W H C/\iH L Wd Hf W H mv C/\Bt Q Q':=by have q:=g.below hb;refine(nscreen_any S r n W H t sh mv E Q q.glo q.apart q.ert q.tab h.ses h.mp hn h.tr hZ h.hW h.hH).mono ?_;rintro e Q' ⟨N,cap,C,h1,h2,h3,h4,h5⟩;exact⟨N,cap,C,h1,h2,h3,h5⟩
theorem K6{B:Nat}{C:Nat->Nat->Ce}(h:fP B S T Q W H n r t sh (some C) mv L K M s):
 Cw 15 #[Pq T] Q fun e Q'=>∃N cap,e=Rw (Sq N (W*H) cap)/\Cv 47 Q' N W H C/\Bt Q Q':=by refine(Gk Q h.tm).mono ?_;rintro e Q' ⟨N,cap,h1,h2,h3,h4⟩;rw[h.eW,h.eH]at h1 h2;exact⟨N,cap,h1,h2.same fun y x hy hx=>by rw[h.see C rfl y x hy hx,fX C y hx],h4⟩
theorem K8{N cap:Nat}{C:Nat->Nat->Ce}{Q1:World}(g:nH U E)(hb:Bt U Q1)(h:fP U.heap.size S T Q W H n r t sh o mv L K M s)(hB:U.heap.size<=Q.heap.size)(hI:iH L Wd Hf W H mv C)(hr:ZQ Q Q1 S r n W H t mv N cap C):
 Cw 12 #[Pq T,.string ⟨(mT W H o C).toArray⟩] Q1 fun e Q2=>e=Rw (.tuple #[])/\(∃s',fP U.heap.size S T Q2 W H n r t (Sq N (W*H) cap) (some C) mv L K M s')/\Bt U Q2:=by have q:=g.below hb;obtain⟨n1,n2,n3,n4,n5,n6,n7⟩:=h.ne;obtain⟨b1,b2,b3,b4,b5⟩:=h.ge;have hl:=UT (o:=o) h.hW h.hH (hI.rws h.hW h.hH);have u1:=g.utf.sz.1;have u2:=g.utf.sz.2;have u3:=g.g2;have tmk:=th h.tm (hr.fs.block T h.tm.lt (dh n2) (dh n2)) (hr.fs.block K h.tm.cs.klt (dh n3) (dh n3)) (hr.fs.block M h.tm.cs.cv.lt (dh n4) (dh n4));refine(FC ⟨(mT W H o C).toArray⟩ (by show(mT W H o C).toArray.size<=_;simp;omega) Q1 tmk (st:=.out) rfl h.ti trivial q.tab q.utf ⟨by omega,by omega,by omega⟩).mono ?_;intro e Q2 hw;have e0:(⟨(mT W H o C).toArray⟩:ByteArray).data.toList=mT W H o C:=rfl;rw[e0]at hw;obtain⟨a,s',c⟩:=h.rendered hB hI hr hw;have h2:=hw.2.2.2.2;exact⟨a,⟨s',c⟩,⟨h2.os.trans hb.os,h2.tape.trans hb.tape,h2.output.trans hb.output,aH hb.size h2.size,fun k hk=>(h2.block k (zz007 hk hb.size) (by omega) (by omega)).trans (hb.block k hk)⟩⟩
end
end Go.Proofs.YtadhgppeafpdgaaGreatDoor
namespace Go.Proofs.YtadhgppeafpdgaaGreatDoor
open Go.RowKit Go.Sort Go.Proofs.Tryz
set_option linter.all false
/--At the start: a new zX,a new lU. -/
theorem FO{U U1 U2:World}{W H S r T K M:Nat}{L:List Nd}(hW:1<=W/\W<=400)(hH:1<=H/\H<=400)(hL:bJ sf=.ok L)(h1:mP U1 S W H sf r (.slice none 0 0))(h2:Mp U1 r 0 (fun _=>0))(h3:Bt U U1)(h4:U.heap.size<=r/\r<S)(k1:TM U2 T K M (W*H) (Mg W H) (uh 17 #[]))(k2:U1.heap.size<=T/\U1.heap.size<=K/\U1.heap.size<=M)(k3:Bt U1 U2):fP U.heap.size S T U2 W H 0 r sf (.slice none 0 0) none (fun _=>0) L K M (Mg W H):=by have l1:=h1.lt;have l2:=h2.lt;have l3:=h3.size;exact⟨(k3.block S l1).trans h1,h2.below k3 l2,hL,.no,k1,ti0 W H hH.1,rfl,rfl,⟨rfl,rfl,rfl⟩,fun c e=>(by cases e),⟨by omega,by omega,by omega,by omega,by omega,by omega,by omega⟩,fun N k c e=>(by cases e),⟨by omega,by omega,by omega,by omega,by omega⟩⟩
set_option maxRecDepth 100000 in
set_option maxHeartbeats 4000000 in
theorem Qd(w h:Int)(p:Option Addr)(n c:Nat)(B7:¬(1<=w/\w<=400/\1<=h/\h<=400))(U:World):Cw 3 #[Iq w,Iq h,.slice p n c] U fun e U'=>e=Rw (.bool true)/\Bt U U':=by have NW:Hid (Cw 4 #[Iq w,Iq h] U fun e U'=>e=Rw (.tuple #[.pointer none,Iq 6])/\Hid (Bt U U')):=PD w h B7 U;have NT:Hid (∀u:World,Cw 5 #[Iq w,Iq h] u fun e U'=>e=Rw (.tuple #[.pointer none,Iq 6])/\U'=u):=fun u=>QE w h u (fun q=>B7 ⟨q.1.1,q.1.2,q.2.1,q.2.2⟩);have NR:Hid (∀u:World,Cw 6 #[Iq w,Iq h] u fun e U'=>e=Rw (.tuple #[.pointer none,Iq 6])/\U'=u):=fun u=>Ql w h B7 u;have NU:Hid (∀n u,Cw 7 #[Iq n] u fun e w'=>e=Rw (Iq n)/\w'=u):=Cq;clear B7;go_enter func3,ntmps3;go_wp2_with(first|(go_at_call 4;refine NW.mono ?_;rintro e U1 ⟨rfl,H1⟩)|(go_at_call 5;refine(NT _).mono ?_;rintro e U2 ⟨rfl,h5⟩;obtain rfl:=h5.symm)|(go_at_call 6;refine(NR _).mono ?_;rintro e U2 ⟨rfl,h5⟩;obtain rfl:=h5.symm)|(go_at_call 7;refine(NU _ _).mono ?_;rintro e U5 ⟨rfl,h5⟩;obtain rfl:=h5.symm));go_ret;exact⟨rfl,H1⟩
end Go.Proofs.YtadhgppeafpdgaaGreatDoor
namespace Go.Proofs.YtadhgppeafpdgaaGreatDoor
open Go.RowKit Go.Sort Go.Proofs.Tryz
set_option linter.all false
/--zcS two zh6. -/
def je(U Q:World)(S T i:Nat):Prop:=Bt U Q/\∃W H m r t sh o mv L K M s,m<=i/\fP U.heap.size S T Q W H m r t sh o mv L K M s
/--The zX has GN size,the lU not yet. -/
def zay(U Q:World)(S T i X Y:Nat):Prop:=∃Q0 W H m r t sh o mv L K M s,Bt U Q0/\m<=i/\fP U.heap.size S T Q0 W H m r t sh o mv L K M s/\mP Q S X Y t r (.slice none 0 0)/\Fs S S Q0 Q
/--MK,the lU has not read it. -/
def zaz(U Q:World)(S T i:Nat)(l:List UInt8):Prop:=∃Q0 W H m r t sh o mv L K M s Wd Hf N cap C,Bt U Q0/\Bt U Q/\m<=i/\fP U.heap.size S T Q0 W H m r t sh o mv L K M s/\Sz L Wd Hf/\iH L Wd Hf W H mv C/\ZQ Q0 Q S r m W H t mv N cap C/\l=mT W H o C
/--It zk3 the _M zV. -/
def mO(U Q:World)(S T i W H:Nat)(C:Nat->Nat->Ce):Prop:=Bt U Q/\∃m r t sh mv L K M s Wd Hf,m<=i/\fP U.heap.size S T Q W H m r t sh (some C) mv L K M s/\Sz L Wd Hf/\iH L Wd Hf W H mv C
section
variable{U Q Q':World} {S T i X Y W H:Nat} {E:Nat→Addr} {C:Nat→Nat→Ce}
theorem je.keep(h:je U Q S T i)(hb:Bt Q Q'):je U Q' S T i:=by obtain⟨h1,W,H,m,r,t,sh,o,mv,L,K,M,s,hm,hx⟩:=h;exact⟨h1.trans (hb.mono h1.size),W,H,m,r,t,sh,o,mv,L,K,M,s,hm,hx.keep hb⟩
theorem je.up{j:Nat}(h:je U Q S T i)(hj:i<=j):je U Q S T j:=by obtain⟨h1,W,H,m,r,t,sh,o,mv,L,K,M,s,hm,hx⟩:=h;exact⟨h1,W,H,m,r,t,sh,o,mv,L,K,M,s,aH hm hj,hx⟩
theorem je.lt(h:je U Q S T i):S<Q.heap.size/\T<Q.heap.size:=by obtain⟨h1,W,H,m,r,t,sh,o,mv,L,K,M,s,hm,hx⟩:=h;exact⟨hx.ses.lt,hx.tm.lt⟩
theorem mO.keep(h:mO U Q S T i W H C)(hb:Bt Q Q'):mO U Q' S T i W H C:=by obtain⟨h1,m,r,t,sh,mv,L,K,M,s,Wd,Hf,hm,hx,hz,hi⟩:=h;exact⟨h1.trans (hb.mono h1.size),m,r,t,sh,mv,L,K,M,s,Wd,Hf,hm,hx.keep hb,hz,hi⟩
theorem mO.own(h:mO U Q S T i W H C):je U Q S T i:=by obtain⟨h1,m,r,t,sh,mv,L,K,M,s,Wd,Hf,hm,hx,hz,hi⟩:=h;exact⟨h1,W,H,m,r,t,sh,_,mv,L,K,M,s,hm,hx⟩
theorem own_set(g:nH U E)(h:je U Q S T i)(text:ByteArray):Cw 10 #[Pq S,.string text] Q fun e Q'=>(∃a b,e=Rw (.tuple #[a,b]))/\Hid (je U Q' S T i):=by
 obtain⟨hb,W,H,m,r,t,sh,o,mv,L,K,M,s,hm,hx⟩:=h;have q:=g.below hb;refine(PE S r m W H t sh mv text E Q q.glo q.apart q.ert hx.ses hx.mp hx.ne.1).mono ?_;intro e Q' hs;unfold SB at hs;cases hp:bJ text with
 |error x=>rw[hp]at hs;exact⟨⟨_,_,hs.1⟩,je.keep ⟨hb,W,H,m,r,t,sh,o,mv,L,K,M,s,hm,hx⟩ hs.2⟩
 |ok L'=>rw[hp]at hs;obtain⟨h1,h2,h3,h4⟩:=hs;exact⟨⟨_,_,h1⟩,hb.trans (h4.below hx.ge.1 hx.ge.2.1 hb.size),W,H,m,r,text,sh,o,_,L',K,M,s,hm,hx.put h2 h3 hp h4⟩
theorem own_scroll(g:nH U E)(h:je U Q S T i)(hi:i<=1760000000000){a b:Int}(ha:iI a)(sr:iI b):Cw 11 #[Pq S,Iq a,Iq b] Q fun e Q'=>(∃x,e=Rw (Iq x))/\Hid (je U Q' S T (i+1)):=by
 obtain⟨hb,W,H,m,r,t,sh,o,mv,L,K,M,s,hm,hx⟩:=h;have q:=g.below hb;have hT:=eE (dB hx.tr);obtain⟨Wd,Hf,hZ⟩:=W7 hT.nest;obtain⟨aM,r0,r1,hR⟩:=UV hT hZ (W:Int) (H:Int) a;have:=hx.hW;have:=hx.hH;refine(C0 S r m W H t sh mv a aM b E Q q.glo q.apart q.ert q.tab hx.ses hx.mp hx.ne.1 (by omega) hx.tr hZ (by omega) ha sr ⟨r0,r1⟩ hR).mono ?_;intro e Q' hs;unfold ScO at hs;split at hs;·exact⟨⟨_,hs.1⟩,(je.keep ⟨hb,W,H,m,r,t,sh,o,mv,L,K,M,s,hm,hx⟩ hs.2).up (by omega)⟩
 ·obtain⟨h1,h2,h3,h4⟩:=hs;exact⟨⟨_,h1⟩,hb.trans (h4.below hx.ge.1 hx.ge.2.1 hb.size),W,H,m+1,r,t,sh,o,_,L,K,M,s,by omega,hx.put h2 h3 hx.tr h4⟩
theorem own_resize(h:je U Q S T i)(hX:1<=X/\X<=400)(hY:1<=Y/\Y<=400):Cw 8 #[Pq S,Iq X,Iq Y] Q fun e Q'=>e=Rw (Iq 0)/\Hid (zay U Q' S T i X Y/\Fs S S Q Q'):=by obtain⟨hb,W,H,m,r,t,sh,o,mv,L,K,M,s,hm,hx⟩:=h;refine(uS S r W H X Y t sh (by omega) Q hx.ses).mono ?_;rintro e Q' ⟨h1,h2,h3⟩;exact⟨h1,⟨Q,W,H,m,r,t,sh,o,mv,L,K,M,s,hb,hm,hx,h2,h3⟩,h3⟩
theorem own_tres(h:zay U Q S T i X Y)(hX:1<=X/\X<=400)(hY:1<=Y/\Y<=400):Cw 9 #[Pq T,Iq X,Iq Y] Q fun e Q'=>e=Rw (Iq 0)/\Hid (je U Q' S T i):=by obtain⟨Q0,W,H,m,r,t,sh,o,mv,L,K,M,s,hb,hm,hx,hs,hf⟩:=h;obtain⟨n1,n2,n3,n4,n5,n6,n7⟩:=hx.ne;have htm:=th hx.tm (hf.block T hx.tm.lt (dh n2) (dh n2)) (hf.block K hx.tm.cs.klt (dh n3) (dh n3)) (hf.block M hx.tm.cs.cv.lt (dh n4) (dh n4));refine(F0 Q htm X Y hX hY (PAll.blank X Y)).mono ?_;rintro e Q' ⟨h1,h2⟩;obtain⟨K',M',k⟩:=hx.resized hX hY hs hf h2;have hb1:=hb.trans (hf.below hx.ge.1 hx.ge.1 hb.size);have g2:=h2.c2;have hT:=hx.ge.2.2.1;exact⟨h1,⟨g2.os.trans hb1.os,g2.tape.trans hb1.tape,g2.output.trans hb1.output,aH hb1.size g2.size,fun k hk=>(g2.block k (zz007 hk hb1.size) (by omega) (by omega)).trans (hb1.block k hk)⟩,X,Y,m,r,t,_,_,mv,L,K',M',_,hm,k⟩
theorem own_r1(g:nH U E)(h:je U Q S T i)(hi:i<=1760000000001):Cw 13 #[Pq S] Q fun e Q'=>∃l:List UInt8,e=Rw (.string ⟨l.toArray⟩)/\Hid (zaz U Q' S T i l):=by obtain⟨hb,W,H,m,r,t,sh,o,mv,L,K,M,s,hm,hx⟩:=h;obtain⟨Wd,Hf,hZ⟩:=W7 (eE (dB hx.tr)).nest;refine(uY g hb hx (by omega) hZ).mono ?_;rintro e Q' ⟨N,cap,C,h1,h2,h3,h4⟩;exact⟨_,h1,Q,W,H,m,r,t,sh,o,mv,L,K,M,s,Wd,Hf,N,cap,C,hb,h4,hm,hx,hZ,h2,h3,rfl⟩
theorem own_w{l:List UInt8}(g:nH U E)(h:zaz U Q S T i l):Cw 12 #[Pq T,.string ⟨l.toArray⟩] Q fun e Q'=>e=Rw (.tuple #[])/\Hid (∃W H C,mO U Q' S T i W H C):=by obtain⟨Q0,W,H,m,r,t,sh,o,mv,L,K,M,s,Wd,Hf,N,cap,C,wC,hb,hm,hx,hZ,hI,hr,rfl⟩:=h;refine(K8 g hb hx wC.size hI hr).mono ?_;rintro e Q' ⟨h1,⟨s',h2⟩,h3⟩;exact⟨h1,W,H,C,h3,m,r,t,_,mv,L,K,M,s',Wd,Hf,hm,h2,hZ,hI⟩
theorem own_r2(g:nH U E)(h:mO U Q S T i W H C)(hi:i<=1760000000001):Cw 13 #[Pq S] Q fun e Q'=>e=Rw (.string ⟨#[]⟩)/\Hid (mO U Q' S T i W H C):=by obtain⟨hb,m,r,t,sh,mv,L,K,M,s,Wd,Hf,hm,hx,hZ,hI⟩:=h;refine(uY g hb hx (by omega) hZ).mono ?_;rintro e Q' ⟨N,cap,C',h1,h2,h3,h4⟩;obtain rfl:C'=C:=h2.uniq (eE (dB hx.tr)) hI;rw[Lf]at h1;exact⟨h1,h4,m,r,t,_,mv,L,K,M,s,Wd,Hf,hm,hx.again h3 (hI.rws hx.hW hx.hH),hZ,hI⟩
theorem own_s(g:nH U E)(h:mO U Q S T i W H C)(hi:i<=1760000000001):Cw 14 #[Pq S] Q fun e Q'=>∃N cap:Nat,e=Rw (Sq N (W*H) cap)/\Hid (CB Q' N 0 (H*W) (eQ W C)/\mO U Q' S T i W H C):=by obtain⟨hb,m,r,t,sh,mv,L,K,M,s,Wd,Hf,hm,hx,hZ,hI⟩:=h;refine(FN g hb hx (by omega) hZ).mono ?_;rintro e Q' ⟨N,cap,C',h1,h2,h3,h4⟩;obtain rfl:C'=C:=h3.uniq (eE (dB hx.tr)) hI;exact⟨N,cap,h1,He h2,mO.keep ⟨hb,m,r,t,sh,mv,L,K,M,s,Wd,Hf,hm,hx,hZ,hI⟩ h4⟩
theorem own_c(h:mO U Q S T i W H C):Cw 15 #[Pq T] Q fun e Q'=>∃N cap:Nat,e=Rw (Sq N (W*H) cap)/\Hid (CB Q' N 0 (H*W) (eQ W C)/\mO U Q' S T i W H C/\Bt Q Q'):=by have h':=h;obtain⟨hb,m,r,t,sh,mv,L,K,M,s,Wd,Hf,hm,hx,hZ,hI⟩:=h;refine(K6 hx).mono ?_;rintro e Q' ⟨N,cap,h1,h2,h3⟩;exact⟨N,cap,h1,He h2,h'.keep h3,h3⟩
theorem mO.size(h:mO U Q S T i W H C):1<=W*H/\W*H<=160000:=by obtain⟨hb,m,r,t,sh,mv,L,K,M,s,Wd,Hf,hm,hx,hZ,hI⟩:=h;exact⟨Ji hx.hW.1 hx.hH.1,pJ hx.hW.2 hx.hH.2⟩
end
/--A step in a block of its own. -/
def R6(w:World)(b:Nat)(kd x y:Int)(s t:ByteArray)(p:Option Addr)(z m:Nat):Prop:=w.heap[b]?=some (.cells #[Iq kd,Iq x,Iq y,.string s,.string t,.slice p z m] 36 (0,0))
theorem R6.cell{w:World}{b:Nat}{kd x y:Int}{s t:ByteArray}{p:Option Addr}{z m:Nat}(h:R6 w b kd x y s t p z m):w.cell? (aq b 0)=some (Iq kd)/\w.cell? (aq b 1)=some (Iq x)/\w.cell? (aq b 2)=some (Iq y)/\w.cell? (aq b 3)=some (.string s)/\w.cell? (aq b 4)=some (.string t)/\w.cell? (aq b 5)=some (.slice p z m)/\∀j,w.frozen? (aq b j)=false:=by unfold R6 at h;refine⟨?_,?_,?_,?_,?_,?_,fun j=>frozen_of_row _ _ _ _ _ h⟩<;>simp[World.cell?,h]
theorem Ul{w:World}{b:Nat}{kd x y:Int}{s t:ByteArray}{p:Option Addr}{z m:Nat}(h:R6 w b kd x y s t p z m):b<w.heap.size:=(az.1 h).1
theorem R6.set{w:World}{b:Nat}{kd x y:Int}{s t:ByteArray}{p:Option Addr}{z m:Nat}(h:R6 w b kd x y s t p z m)(kd' x' y':Int)(s' t':ByteArray)(p':Option Addr)(z' m':Nat):R6 ((((((w.setCell (aq b 0) (Iq kd')).setCell (aq b 1) (Iq x')).setCell (aq b 2) (Iq y')).setCell (aq b 3) (.string s')).setCell (aq b 4) (.string t')).setCell (aq b 5) (.slice p' z' m')) b kd' x' y' s' t' p' z' m':=by unfold R6 at h⊢;have h:=heap_setCell_same _ b 0 _ _ (Iq kd') h;have h:=heap_setCell_same _ b 1 _ _ (Iq x') h;have h:=heap_setCell_same _ b 2 _ _ (Iq y') h;have h:=heap_setCell_same _ b 3 _ _ (.string s') h;have h:=heap_setCell_same _ b 4 _ _ (.string t') h;exact heap_setCell_same _ b 5 _ _ (.slice p' z' m') h
/--zjk the zcM Uz are zkV Uz. -/
def Xz(n:Nat)(op:Nat->VR):Prop:=∀i,i<n->iI (op i).a/\iI (op i).b
end Go.Proofs.YtadhgppeafpdgaaGreatDoor
namespace Go.Proofs.YtadhgppeafpdgaaGreatDoor
open Go.RowKit Go.Sort Go.Proofs.Tryz
set_option linter.all false
set_option maxRecDepth 100000 in
set_option maxHeartbeats 8000000 in
theorem UK(W H:Nat)(hW:1<=W/\W<=400)(hH:1<=H/\H<=400)(v:Value)(n:Nat)(op:Nat->VR)(E:Nat->Addr)(U:World)(h:MG U v n op)(hw:Xz n op)(hn:n<=1760000000000)(g:nH U E):Cw 3 #[Iq W,Iq H,v] U fun e U'=>e=Rw (.bool true)/\Bt U U':=by
 have sV:prog.follows .mixedOrders=true:=by kernel_rfl
 have YO:1<=(W:Int)/\(W:Int)<=400/\1<=(H:Int)/\(H:Int)<=400:=by omega
 obtain⟨L0,Wh⟩:=XW;have NW:Hid (Cw 4 #[Iq W,Iq H] U fun e U'=>∃S r,e=Rw (.tuple #[Pq S,Iq 0])/\Hid (mP U' S W H sf r (.slice none 0 0)/\Mp U' r 0 (fun _=>0)/\Bt U U'/\U.heap.size<=r/\r<S)):=Uw W H YO U;have NR:Hid (∀u:World,Cw 6 #[Iq W,Iq H] u fun e U'=>∃R,e=Rw (.tuple #[Pq R,Iq 0])/\Hid (Bt u U')):=fun u=>(Qm W H YO u).mono fun e U' q=>⟨_,q.1,by rw[q.2];exact((Gr.refl u).alloc _).below⟩;have NT:Hid (∀u:World,Cw 5 #[Iq W,Iq H] u fun e w'=>∃T,e=Rw (.tuple #[Pq T,Iq 0])/\Hid (∃K M,TM w' T K M (W*H) (Mg W H) (uh 17 #[])/\(u.heap.size<=T/\u.heap.size<=K/\u.heap.size<=M)/\Bt u w')):=fun u=>(II W H u hW hH (PAll.blank W H)).mono fun e w' ⟨T,K,M,q1,q2,q3,q4,q5,q6⟩=>⟨T,q1,K,M,q2,⟨q3,q4,q5⟩,q6⟩;have NU:Hid (∀n u,Cw 7 #[Iq n] u fun e w'=>e=Rw (Iq n)/\w'=u):=Cq;obtain⟨av,cv,rfl,hh⟩:=h;have HH:=qH hh;have HW:=qH hw;have HG:=qH g;have ZA:=qH Wh;have HWH:Hid ((1<=W/\W<=400)/\(1<=H/\H<=400)):=⟨hW,hH⟩;clear hh g Wh YO hW hH hw;go_enter func3,ntmps3;go_wp2_with(first|(go_at_call 4;refine NW.mono ?_;rintro e U1 ⟨S,r,rfl,H1⟩)|(go_at_call 5;refine(NT _).mono ?_;rintro e U2 ⟨T,rfl,H2⟩)|(go_at_call 6;refine(NR _).mono ?_;rintro e U3 ⟨R,rfl,H3⟩)|(go_at_call 7;refine(NU _ _).mono ?_;rintro e U5 ⟨rfl,h5⟩;obtain rfl:=h5.symm));have I0:Hid (je U U3 S T 0):=by obtain⟨a1,a2,a3,a4,a5⟩:=H1.out;obtain⟨K,M,b1,b2,b3⟩:=H2.out;have hx:=FO HWH.out.1 HWH.out.2 ZA.out a1 a2 a3 ⟨a4,a5⟩ b1 b2 b3;have hb:=a3.trans (b3.mono a3.size);exact⟨hb.trans (H3.out.mono hb.size),_,_,0,_,_,_,_,_,_,_,_,_,ae 0,hx.keep H3⟩
 clear H1 H2 H3 NW NT NR;go_loopw[13] (fun iv wi=>∃i:Nat,i<=n+1/\iv=Iq i/\Hid (je U wi S T i)) (fun iv _=>n+1-(intOf iv).toNat);case atStart=>exact⟨0,by omega,rfl,I0⟩
 case round=>
  obtain⟨i,hi,rfl,HI⟩:=hrel;by_cases qj:i<=n
  ·have zbO:(i:Int)<=(n:Int):=by omega
   have BU:(i:Int)<1152921504606846976:=by omega
   have HL:Hid (i<=n):=qj;have hib:(i:Int)<=1760000000000:=by omega
   have HO:Hid (i<n->∃bb off,av=some (aq bb off)/\bb<wr.heap.size/\(wr.cell? (aq bb (off+i*6))=some (Iq (op i).kd)/\wr.cell? (aq bb (off+i*6+1))=some (Iq (op i).a)/\wr.cell? (aq bb (off+i*6+2))=some (Iq (op i).b)/\wr.cell? (aq bb (off+i*6+3))=some (.string (op i).s)/\wr.cell? (aq bb (off+i*6+4))=some (.string (op i).t)/\wr.cell? (aq bb (off+i*6+5))=some (.slice (op i).p (op i).zs.length (op i).m))):=fun hlt=>by obtain⟨bb,off,e,qe,gT⟩:=HH.out.resolve_left (by omega);obtain⟨p0,p1,p2,p3,p4,p5,_⟩:=gT i hlt;have hB:=HI.out.1;exact⟨bb,off,e,zz007 qe hB.size,cW hB p0,cW hB p1,cW hB p2,cW hB p3,cW hB p4,cW hB p5⟩
   obtain⟨Z,hZ⟩:=af wr.heap.size;have HST:Hid (S<Z/\T<Z):=by rw[<-hZ];exact HI.out.lt
   go_upto_if 78 with fail;obtain⟨W0,bc⟩:=af (wr.alloc (.cells #[Iq 4,Iq 0,Iq 0,.string ⟨#[]⟩,.string ⟨#[]⟩,.slice none 0 0] 36));have H0:Hid (R6 W0 Z 4 0 0 ⟨#[]⟩ ⟨#[]⟩ none 0 0):=by rw[<-bc,<-hZ];exact heap_alloc_new _ _
   have Gv:Hid (Bt wr W0):=by rw[<-bc];exact((Gr.refl wr).alloc _).below
   have HI0:Hid (je U W0 S T i):=HI.out.keep Gv.out;have HZ0:Hid (wr.heap.size=Z):=hZ;rw[bc];clear bc qj zbO BU hi hZ;go_cut[78]from 64 to 156 (fun _ wx=>∃kd a b s t p z m,Hid (R6 wx Z kd a b s t p z m)/\Hid (je U wx S T i)/\Hid (kd=3->(iI a/\iI b)/\i<n));case first=>
    rcases yr i n with hlt|hge
    ·have aR:(i:Int)<(n:Int):=by omega
     have HLT:=qH hlt;obtain⟨bb,off,rfl,qe,c0,c1,c2,c3,c4,c5⟩:=HO hlt;have sW:=HW.out i hlt;obtain⟨r0,ux⟩:=af (op i);rw[ux]at c0 c1 c2 c3 c4 c5 sW;have HW2:=qH sW;obtain⟨kd,a,b,s,t,p,m,zs⟩:=r0;simp only at c0 c1 c2 c3 c4 c5;obtain⟨ln,hln⟩:=af zs.length;rw[hln]at c5;have q0:=(Gv.out.cell (p:=(aq bb (off+i*6))) qe).trans c0;have q1:=(Gv.out.cell (p:=(aq bb (off+i*6+1))) qe).trans c1;have q2:=(Gv.out.cell (p:=(aq bb (off+i*6+2))) qe).trans c2;have q3:=(Gv.out.cell (p:=(aq bb (off+i*6+3))) qe).trans c3;have q4:=(Gv.out.cell (p:=(aq bb (off+i*6+4))) qe).trans c4;have q5:=(Gv.out.cell (p:=(aq bb (off+i*6+5))) qe).trans c5;obtain⟨z0,z1,z2,z3,z4,z5,fz⟩:=H0.out.cell;clear c0 c1 c2 c3 c4 c5 HO qe hlt ux hln sW;go_wp2_with fail;go_meet;refine⟨kd,a,b,s,t,p,ln,m,H0.out.set _ _ _ _ _ _ _ _,HI.out.keep ?_,fun _=>⟨HW2,HLT⟩⟩;have hz:wr.heap.size<=Z:=Nat.le_of_eq HZ0;exact(((((Gv.out.setCell hz _).setCell hz _).setCell hz _).setCell hz _).setCell hz _).setCell hz _
    ·have zn5:¬(i:Int)<(n:Int):=by omega
     clear hge;go_wp2_with fail;go_meet;exact⟨4,0,0,_,_,_,_,_,H0,HI0,fun e=>by omega⟩
   case rest=>
    obtain⟨kd,a,b,s,t,p,z,m,HR,HX,HK⟩:=hcut;obtain⟨d0,d1,d2,d3,_,_,_⟩:=HR.out.cell;clear HO Gv H0 HI0 HI;by_cases k1:kd=1
    ·have e1:(kd==1)=true:=by simpa using k1
     clear k1;by_cases Hn:1<=a/\a<=400/\1<=b/\b<=400
     ·obtain⟨X,rfl⟩:∃X:Nat,a=X:=⟨a.toNat,by omega⟩;obtain⟨Y,rfl⟩:∃Y:Nat,b=Y:=⟨b.toNat,by omega⟩;have qV:Hid ((1<=X/\X<=400)/\(1<=Y/\Y<=400)):=⟨by omega,by omega⟩;have RS:=qH<|own_resize HX.out qV.out.1 qV.out.2;have nD:Hid (S≠Z/\Z<wc.heap.size):=⟨by have:=HST.out;omega,Ul HR⟩;clear Hn;go_wp2_with fail;refine RS.out.mono ?_;rintro e w2 ⟨rfl,H2⟩;have HR2:Hid (R6 w2 Z kd X Y s t p z m):=(H2.out.2.block Z nD.out.2 (dh nD.out.1) (dh nD.out.1)).trans HR.out;have TR:=qH<|own_tres H2.out.1 qV.out.1 qV.out.2;obtain⟨_,f1,f2,_⟩:=HR2.out.cell;clear RS;go_wp2_with(first|(go_at_call 7;refine(NU _ _).mono ?_;rintro e U5 ⟨rfl,h5⟩;obtain rfl:=h5.symm)|(go_at_call 9;refine TR.mono ?_;rintro e w3 ⟨rfl,H3⟩));go_wp2;go_roundw;case rel=>exact⟨i+1,yw HL,by go_num,H3.out.up (by omega)⟩
      case measure=>have:i<=n:=HL;simp[intOf];omega
     ·have RS:Hid (∀u,Cw 8 #[Pq S,Iq a,Iq b] u fun e U'=>e=Rw (Iq 6)/\U'=u):=rD S a b Hn;clear Hn;go_wp2_with(first|(go_at_call 7;refine(NU _ _).mono ?_;rintro e U5 ⟨rfl,h5⟩;obtain rfl:=h5.symm)|(go_at_call 8;refine(RS _).mono ?_;rintro e U6 ⟨rfl,h5⟩;obtain rfl:=h5.symm));go_wp2;go_roundw;case rel=>exact⟨i+1,yw HL,by go_num,HX.out.up (by omega)⟩
      case measure=>have:i<=n:=HL;simp[intOf];omega
    have e1:(kd==1)=false:=by simpa using k1
    by_cases k2:kd=2
    ·have e2:(kd==2)=true:=by simpa using k2
     have ST:=qH<|own_set HG.out HX.out s;clear k1 k2;go_wp2_with(go_at_call 10;refine ST.mono ?_;rintro e w2 ⟨⟨x,y,rfl⟩,H2⟩);go_wp2;go_roundw;case rel=>exact⟨i+1,yw HL,by go_num,H2.out.up (by omega)⟩
     case measure=>have:i<=n:=HL;simp[intOf];omega
    have e2:(kd==2)=false:=by simpa using k2
    by_cases k3:kd=3
    ·have e3:(kd==3)=true:=by simpa using k3
     obtain⟨⟨wa,wb⟩,hlt⟩:=HK k3;have ST:=qH<|own_scroll HG.out HX.out (by omega) wa wb;clear k1 k2 k3 wa wb hlt;go_wp2_with(go_at_call 11;refine ST.mono ?_;rintro e w2 ⟨⟨x,rfl⟩,H2⟩);go_wp2;go_roundw;case rel=>exact⟨i+1,yw HL,by go_num,H2⟩
     case measure=>have:i<=n:=HL;simp[intOf];omega
    have e3:(kd==3)=false:=by simpa using k3
    by_cases k4:kd=4
    ·have e4:(kd==4)=true:=by simpa using k4
     have hi7:i<=1760000000001:=by have:i<=n:=HL;omega
     have R1:=qH<|own_r1 HG.out HX.out hi7;clear k1 k2 k3 k4;go_wp2_with fail;refine R1.out.mono ?_;rintro e w1 ⟨l,rfl,H1⟩;have WT:=qH<|own_w HG.out H1.out;clear R1;go_wp2_with fail;refine WT.out.mono ?_;rintro e w2 ⟨rfl,H2⟩;obtain⟨A,B,C,h2⟩:=H2.out;have eV:=h2.size;obtain⟨N,hN⟩:=af (A*B);have R2:=qH<|own_r2 HG.out h2 hi7;clear WT H2 h2;go_wp2_with fail;refine R2.out.mono ?_;rintro e w3 ⟨rfl,H3⟩;have SC:=qH<|own_s HG.out H3.out hi7;clear R2;rw[hN]at SC eV;go_wp2_with fail;refine SC.out.mono ?_;rintro e w4 ⟨M1,pX,rfl,H4⟩;have CC:=qH<|own_c H4.out.2;rw[hN]at CC;clear SC;go_wp2_with fail;refine CC.out.mono ?_;rintro e w5 ⟨M2,oA,rfl,H5⟩;have hBA:B*A=N:=by rw[jc];exact hN
     have V1:Hid (CL w5 M1 0 N (eQ A C)):=by rw[<-hBA];exact H4.out.1.cl.below H5.out.2.2
     have V2:Hid (CL w5 M2 0 N (eQ A C)):=by rw[<-hBA];exact H5.out.1.cl
     have HS5:Hid (mO U w5 S T i A B C):=H5.out.2.1;have hN0:((N:Int)==0)=false:=by simp;omega
     have HN:Hid (N<=160000):=eV.2;clear CC H4 H5 hN hBA eV hi7;go_wp2_with fail;go_loopw[19] (fun jv wj=>∃j:Nat,j<=N/\jv=Iq j/\Hid (Gr w5 wj)) (fun jv _=>N-(intOf jv).toNat);case atStart=>exact⟨0,by omega,rfl,Gr.refl w5⟩
     case round=>
      obtain⟨j,hj,rfl,HJ⟩:=hrel;by_cases OA:j<N
      ·have L1:=V1.out.below HJ.out.below;have L2:=V2.out.below HJ.out.below;obtain⟨ce,Z7⟩:=af (eQ A C j);obtain⟨t0,f0,g0,b0,p0⟩:=ce;have zgN:(j:Int)<(N:Int):=by omega
       have hjb:(j:Int)<=160000:=by have:N<=160000:=HN;omega
       have l1:∀(k:Nat) u,(c5 ⟨t0,f0,g0,b0,p0⟩)[k]?=some u->wr.cell? (aq M1 (0+j*5+k))=some u:=fun k u hu=>L1.cell j OA k u (by rw[Z7];exact hu);have l2:∀(k:Nat) u,(c5 ⟨t0,f0,g0,b0,p0⟩)[k]?=some u->wr.cell? (aq M2 (0+j*5+k))=some u:=fun k u hu=>L2.cell j OA k u (by rw[Z7];exact hu);simp only[cB]at l1 l2;have x0:wr.cell? (aq M1 (j*5))=some (.string t0):=l1 0 _ rfl;have x1:=l1 1 (Iq f0) rfl;have x2:=l1 2 (Iq g0) rfl;have x3:=l1 3 (Iq b0) rfl;have x4:=l1 4 (Iq p0) rfl;have y0:wr.cell? (aq M2 (j*5))=some (.string t0):=l2 0 _ rfl;have y1:=l2 1 (Iq f0) rfl;have y2:=l2 2 (Iq g0) rfl;have y3:=l2 3 (Iq b0) rfl;have y4:=l2 4 (Iq p0) rfl;clear L1 L2 Z7 l1 l2;go_wp2_with fail;go_quiet(fail);go_wp2;go_roundw;case rel=>exact⟨j+1,by omega,by go_num,HJ.out.trans ((Gr.refl _).drewN _)⟩
       case measure=>simp[intOf];omega
      ·have zgN:¬(j:Int)<(N:Int):=by omega
       go_wp2;go_roundw;case rel=>exact⟨i+1,yw HL,by go_num,(HS5.out.own.keep HJ.out.below).up (by omega)⟩
       case measure=>have:i<=n:=HL;simp[intOf];omega
    have e4:(kd==4)=false:=by simpa using k4
    clear k1 k2 k3 k4;go_wp2;go_roundw;case rel=>exact⟨i+1,yw HL,by go_num,HX.out.up (by omega)⟩
    case measure=>have:i<=n:=HL;simp[intOf];omega
  ·have zbO:¬(i:Int)<=(n:Int):=by omega
   go_wp2;go_ret;exact⟨rfl,HI.out.1⟩
theorem Lc(w h:Int)(p:Option Addr)(n c:Nat)(op:Nat->VR)(E:Nat->Addr)(U:World)(ho:MG U (.slice p n c) n op)(hw:Xz n op)(hn:n<=1760000000000)(g:nH U E):Cw 3 #[Iq w,Iq h,.slice p n c] U fun e U'=>e=Rw (.bool true)/\Bt U U':=by
 by_cases B7:1<=w/\w<=400/\1<=h/\h<=400;·obtain⟨W,rfl⟩:∃W:Nat,w=W:=⟨w.toNat,by omega⟩;obtain⟨H,rfl⟩:∃H:Nat,h=H:=⟨h.toNat,by omega⟩;exact UK W H (by omega) (by omega) _ n op E U ho hw hn g
 ·exact Qd w h p n c B7 U
end Go.Proofs.YtadhgppeafpdgaaGreatDoor
namespace Go.Proofs.YtadhgppeafpdgaaGreatDoor
open Go.ChangeShapes Go.WideShapes Go.ChangeAt Go.RowKit Go.Deep
set_option linter.all false
theorem XL:Tryz.prog.cellsOf 36=6:=by kernel_rfl
theorem ND:Tryz.prog.cellsOf 3=1:=by kernel_rfl
theorem XJ:Tryz.prog.cellsOf 9=1:=by kernel_rfl
theorem XK:Tryz.prog.cellsOf 34=1:=by kernel_rfl
theorem XG:Tryz.prog.bytesOf 36=80:=by kernel_rfl
section
variable{H:Type} {enc:TypeId×Value→H} {w:World} {base:Nat} {spare:Nat→Bool} {held:Bool}
theorem Fh{v:Value}{n:Nat}{y:DataW H×List MemPlace}(h:DataW.trod enc Tryz.prog w base spare held n 3 [v]=some y):∃x:Int,v=.int .i64 x/\iI x:=by obtain⟨x,e,_,hw⟩:=yt Tryz.underlying3 h;injection e with e;exact⟨x,e,Gp hw⟩
theorem Qw{v:Value}{n:Nat}{y:DataW H×List MemPlace}(h:DataW.trod enc Tryz.prog w base spare held n 9 [v]=some y):∃s:ByteArray,v=.string s:=by obtain⟨x,e,_⟩:=DataW.trod_string Tryz.underlying9 h;injection e with e;exact⟨x,e⟩
theorem T3{v:Value}{n:Nat}{y:DataW H×List MemPlace}(h:DataW.trod enc Tryz.prog w base spare held n 34 [v]=some y):∃(p:Option Addr) (m:Nat) (zs:List Int),v=.slice p zs.length m/\nG w v zs:=by
 rcases open_ints Tryz.underlying34 Tryz.underlying3 ND h with⟨iD,_⟩|⟨x,l,c,zs,iD,_,hl,hm,hz,hd,gT,hwz⟩;·injection iD with iD;subst iD;exact⟨none,0,[],rfl,none,0,rfl,.inl rfl⟩
 ·injection iD with iD;subst iD;have hlz:l<=zs.length:=by rw[hz];split<;>omega
  have hL:(zs.take l).length=l:=by rw[bU];omega
  refine⟨some x,c,zs.take l,by rw[hL],some x,c,by rw[hL],?_⟩;have hc:∀i,i<(zs.take l).length->w.cell? (x.add i)=some (.int .i64 ((zs.take l)[i]?.getD 0)):=by intro i hi;rw[bU]at hi;rw[gT i (by omega),iq,if_pos (by omega),ia]
  by_cases h0:zs.take l=[];·exact .inl h0
  ·have hp:0<(zs.take l).length:=io.2 h0;obtain⟨b,off,rfl,Yh⟩:=ints_at (zs:=zs.take l) (fun i hi=>by rw[ia];exact hc i hi) hp;refine .inr ⟨b,off,rfl,rS w (aq b (off+0)) (Yh 0 hp),fun j hj=>?_⟩;rw[<-List.getD_eq_getElem?_getD];exact Yh j hj
set_option maxRecDepth 100000 in
/--MQ is Yb in is a step. -/
theorem zcJ{cs:List Value}{n:Nat}{y:DataW H×List MemPlace}(aO:cs.length=6)(h:DataW.trod enc Tryz.prog w base spare held n 36 cs=some y):
 ∃r:VR,cs=[.int .i64 r.kd,.int .i64 r.a,.int .i64 r.b,.string r.s,.string r.t,.slice r.p r.zs.length r.m]/\nG w (.slice r.p r.zs.length r.m) r.zs/\iI r.a/\iI r.b:=by
 obtain⟨xs,k,hk,Ay,_,WA,hf⟩:=Rj Tryz.underlying36 h;match xs,WA,cs,aO with
 |[y0,y1,y2,y3,y4,y5],_,[v0,v1,v2,v3,v4,v5],_=>have g0:=hf 0 _ rfl;have g1:=hf 1 _ rfl;have g2:=hf 2 _ rfl;have g3:=hf 3 _ rfl;have g4:=hf 4 _ rfl;have g5:=hf 5 _ rfl;simp[ND,XJ,XK]at g0 g1 g2 g3 g4 g5;obtain⟨x0,rfl,w0⟩:=Fh g0;obtain⟨x1,rfl,w1⟩:=Fh g1;obtain⟨x2,rfl,w2⟩:=Fh g2;obtain⟨x3,rfl⟩:=Qw g3;obtain⟨x4,rfl⟩:=Qw g4;obtain⟨p,m,zs,rfl,hi⟩:=T3 g5;exact⟨⟨x0,x1,x2,x3,x4,p,m,zs⟩,rfl,hi,w1,w2⟩
/--MQ is Yb in is a zh'. -/
theorem PP{fuel:Nat}{p:Option Addr}{len cap:Nat}{x:DataW H×List MemPlace}(h:DataW.trod enc Tryz.prog w base spare held fuel 22 [.slice p len cap]=some x):
 ∃op:Nat->VR,MG w (.slice p len cap) len op/\Xz len op/\(x.1=.nil/\len=0\/∃e s,x.1=.slice e s/\e.length=len):=by
 rcases open_slice Tryz.underlying22 h with⟨h0,hx⟩|⟨ad,l,cp,m,n,D,Pl,h0,hb,hl,hm,hmm,rfl,hx⟩;·injection h0 with h0;injection h0 with h1 h2 h3;subst h1 h2 h3;exact⟨fun _=>⟨0,0,0,⟨#[]⟩,⟨#[]⟩,none,0,[]⟩,⟨none,0,rfl,.inl rfl⟩,fun i hi=>absurd hi (by omega),.inl ⟨by rw[hx],rfl⟩⟩
 ·injection h0 with h0;injection h0 with h1 h2 h3;subst h1 h2 h3;have BU:len<=m:=by rw[hmm];split<;>omega
  have each:∀i,i<m->∃r:VR,w.cell? (ad.add (i*6))=some (.int .i64 r.kd)/\w.cell? (ad.add (i*6+1))=some (.int .i64 r.a)/\w.cell? (ad.add (i*6+2))=some (.int .i64 r.b)/\w.cell? (ad.add (i*6+3))=some (.string r.s)/\w.cell? (ad.add (i*6+4))=some (.string r.t)/\w.cell? (ad.add (i*6+5))=some (.slice r.p r.zs.length r.m)/\nG w (.slice r.p r.zs.length r.m) r.zs/\iI r.a/\iI r.b:=by intro i hi;obtain⟨cs',h1,h2⟩:=hx i hi;rw[XL]at h1;obtain⟨_,aO,gT⟩:=World.cells?_some h1;obtain⟨r,hr,eU,RO⟩:=zcJ aO h2;subst hr;have e0:=gT 0 (by omega);have e1:=gT 1 (by omega);have e2:=gT 2 (by omega);have e3:=gT 3 (by omega);have e4:=gT 4 (by omega);have e5:=gT 5 (by omega);rw[add_add]at e0 e1 e2 e3 e4 e5;exact⟨r,by simpa using e0,by simpa using e1,by simpa using e2,by simpa using e3,by simpa using e4,by simpa using e5,eU,RO⟩
  have inh:Inhabited VR:=⟨⟨0,0,0,⟨#[]⟩,⟨#[]⟩,none,0,[]⟩⟩;obtain⟨q,hq⟩:=choose_lt each;refine⟨q,⟨some ad,cap,rfl,?_⟩,fun i hi=>(hq i (by omega)).2.2.2.2.2.2.2,.inr ⟨_,_,rfl,by simp⟩⟩;by_cases hz:len=0;·exact .inl hz
  ·right;obtain⟨b,off,zia⟩:=ad;have zcd:zia=none:=by simpa[Addr.add]using World.cell?_spot (hq 0 (by omega)).1
   subst zcd;refine⟨b,off,rfl,rS w ⟨b,off+0*6,none⟩ (by rw[<-Go.WideShapes.add_plain];exact(hq 0 (by omega)).1),fun j hj=>?_⟩;have Yw:=hq j (by omega);have:=(⟨Yw.1,Yw.2.1,Yw.2.2.1,Yw.2.2.2.1,Yw.2.2.2.2.1,Yw.2.2.2.2.2.1,Yw.2.2.2.2.2.2.1⟩:_/\_/\_/\_/\_/\_/\_);rw[yx,yx,yx,yx,yx,yx]at this;simpa only[Nat.add_assoc]using this
