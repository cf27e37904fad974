import Derived.Test.YtmbefonnkkhfgaaGreatDoorQ48
import Derived.Test.YtmbefonnkkhfgaaGreatDoorQ17
import Derived.Deep.CutBlock
import Derived.Test.YtmbefonnkkhfgaaGreatDoorQ42
import Derived.Test.YtmbefonnkkhfgaaGreatDoorQ46
import Derived.Test.YtmbefonnkkhfgaaGreatDoorQ40
set_option linter.unusedVariables false
set_option maxRecDepth 100000
set_option maxHeartbeats 16000000
namespace Go.Proofs.YtmbefonnkkhfgaaGreatDoor
section
def cap0(ax ay aw ah bx by_ bw bh:Int):Int:=if capL ax aw bx bw≥capR ax aw bx bw∨capL ay ah by_ bh≥capR ay ah by_ bh then 0 else capL ax aw bx bw
def cap1(ax ay aw ah bx by_ bw bh:Int):Int:=if capL ax aw bx bw≥capR ax aw bx bw∨capL ay ah by_ bh≥capR ay ah by_ bh then 0 else capL ay ah by_ bh
def cap2(ax ay aw ah bx by_ bw bh:Int):Int:=if capL ax aw bx bw≥capR ax aw bx bw∨capL ay ah by_ bh≥capR ay ah by_ bh then 0 else capR ax aw bx bw-capL ax aw bx bw
def cap3(ax ay aw ah bx by_ bw bh:Int):Int:=if capL ax aw bx bw≥capR ax aw bx bw∨capL ay ah by_ bh≥capR ay ah by_ bh then 0 else capR ay ah by_ bh-capL ay ah by_ bh
theorem cap_parts(ax ay aw ah bx by_ bw bh:Int):capV ax ay aw ah bx by_ bw bh=rv (cap0 ax ay aw ah bx by_ bw bh) (cap1 ax ay aw ah bx by_ bw bh) (cap2 ax ay aw ah bx by_ bw bh) (cap3 ax ay aw ah bx by_ bw bh):=by unfold capV cap0 cap1 cap2 cap3;split<;>rfl
def putPl(P:Nat->Nat->Int)(c:Nat)(v:Nat->Int):Nat->Nat->Int:=fun q t=>if q=c then v t else P q t
def plV(P:Nat->Nat->Int)(i:Nat)(x y a b:Int)(t:Nat):Int:=
 if t=0 then x else if t=1 then y else if t=2 then a else if t=3 then b else if t=4 then cap0 x y a b (P i 4) (P i 5) (P i 6) (P i 7)else if t=5 then cap1 x y a b (P i 4) (P i 5) (P i 6) (P i 7)else if t=6 then cap2 x y a b (P i 4) (P i 5) (P i 6) (P i 7)else if t=7 then cap3 x y a b (P i 4) (P i 5) (P i 6) (P i 7)else 0
def plK(P:Nat->Nat->Int)(i:Nat)(ks:List Nat)(R0 R1 R2 R3:Nat->Int):Nat->Nat->Nat->Int
 |0=>P
 |j+1=>putPl (plK P i ks R0 R1 R2 R3 j) (kdn ks j) (plV P i (R0 j) (R1 j) (R2 j) (R3 j))
section
variable{P:Nat->Nat->Int} {i:Nat} {ks:List Nat} {R0 R1 R2 R3:Nat->Int}
theorem plK_other:∀j,(∀t,t<j->t<ks.length)->∀q,q∉ks->plK P i ks R0 R1 R2 R3 j q=P q
 |0,_,q,_=>rfl
 |j+1,hj,q,hq=>by have:=plK_other j (fun t ht=>hj t (by omega)) q hq;funext t;show(if q=kdn ks j then _ else plK P i ks R0 R1 R2 R3 j q t)=_;rw[if_neg (fun e=>hq (by rw[e];exact kdn_mem (hj j (by omega)))),this]
theorem kdn_inj(hn:ks.Nodup){a b:Nat}(ha:a<ks.length)(hb:b<ks.length)(e:kdn ks a=kdn ks b):a=b:=by
 unfold kdn at e;rw[List.getElem?_eq_getElem ha,List.getElem?_eq_getElem hb]at e;rcases Nat.lt_trichotomy a b with h|h|h;·exact absurd e (List.pairwise_iff_getElem.1 hn a b ha hb h)
 ·exact h
 ·exact absurd e.symm (List.pairwise_iff_getElem.1 hn b a hb ha h)
theorem plK_kid(hn:ks.Nodup):∀j,j≤ks.length->∀a,a<j->plK P i ks R0 R1 R2 R3 j (kdn ks a)=plV P i (R0 a) (R1 a) (R2 a) (R3 a)
 |0,_,a,h=>by omega
 |j+1,hj,a,ha=>by
  funext t;show(if kdn ks a=kdn ks j then plV P i (R0 j) (R1 j) (R2 j) (R3 j) t else plK P i ks R0 R1 R2 R3 j (kdn ks a) t)=_;by_cases e:a=j;·rw[e,if_pos rfl]
  ·rw[if_neg (fun q=>e (kdn_inj hn (by omega) (by omega) q)),plK_kid hn j (by omega) a (by omega)]
end
theorem Ch.ok{L:Nat->Nd}{d:Nat}{ks:List Nat}{a e:Nat}(h:Ch L d ks a e):∀j,a≤j->j<e->KidOk (L j):=by
 induction h with
 |nil d a=>intro j h1 h2;omega
 |@cons d c r e1 e h1 h2 h3 h4 i1 i2=>
  intro j k1 k2;by_cases e0:j=c;·subst e0;exact h2
  ·by_cases l:j<e1;·exact i1 j (by omega) l
   ·exact i2 j (by omega) k2
theorem Tree.kidok{s:ByteArray}{L:List Nd}(h:Tree s L)(j:Nat)(hj:j<L.length):KidOk (nth L j):=h.ch.ok j (Nat.zero_le _) hj
structure PlTo(L:List Nd)(Wd:Nat->Int)(H:Nat->Int->Int)(w h:Int)(idf off:Nat->Int)(sn:Nat)(P:Nat->Nat->Int)(k:Nat):Prop where
 root:P 0 0=0∧P 0 1=0∧P 0 2=w∧P 0 3=h∧P 0 4=0∧P 0 5=0∧P 0 6=w∧P 0 7=h
 sc:∀i,i<L.length->i<k->(nth L i).kind=4->P i 9=roomI (H (kdn (nth L i).kids 0) (P i 2)) (P i 3)∧P i 8=min (max 0 (offI (atN (nth L i) 0) idf off sn)) (P i 9)
 no:∀i,i<L.length->(k≤i∨(nth L i).kind≠4)->P i 8=0∧P i 9=0
 kr:∀i,i<L.length->i<k->∃R0 R1 R2 R3,KrSpec (nth L i).kind (atN (nth L i) 4) (atN (nth L i) 5) (atN (nth L i) 6) L (nth L i).kids Wd H (P i 0) (P i 1) (P i 2) (P i 3) (P i 8) (P i 9) R0 R1 R2 R3∧∀j,j<(nth L i).kids.length->∀t,t<8->P (kdn (nth L i).kids j) t=plV P i (R0 j) (R1 j) (R2 j) (R3 j) t
 bd:∀i,i<L.length->-(((i:Int)+1)*100000000)≤P i 0∧P i 0≤((i:Int)+1)*100000000∧-(((i:Int)+1)*100000000)≤P i 1∧P i 1≤((i:Int)+1)*100000000∧0≤P i 2∧P i 2≤100000∧0≤P i 3∧P i 3≤100000
theorem ins_parts{x y a b n i0 i1 i2 i3:Int}(h:insV x y a b n=rv i0 i1 i2 i3):-200000≤i0∧i0≤200000∧-200000≤i1∧i1≤200000∧0≤i2∧i2≤100000∧0≤i3∧i3≤100000:=by unfold insV at h;obtain⟨rfl,rfl,rfl,rfl⟩:=rv_inj h;have h1:=posI_bd x;have h2:=posI_bd y;have h3:=lenI_bd a;have h4:=lenI_bd b;have h5:=lenI_bd n;omega
theorem KrSpec.bd{kd a4 a5 a6:Int}{L:List Nd}{ks:List Nat}{Wd:Nat->Int}{H:Nat->Int->Int}{x y w h of rm:Int}{R0 R1 R2 R3:Nat->Int}(s:KrSpec kd a4 a5 a6 L ks Wd H x y w h of rm R0 R1 R2 R3)(hm:ks.length≤100)(hw:0≤w∧w≤100000)(hh:0≤h∧h≤100000)(hof:0≤of∧of≤100000)(hrm:0≤rm∧h+rm≤100000)(B:Int)(hB:100000000≤B)(hx:-B≤x∧x≤B)(hy:-B≤y∧y≤B)(j:Nat)(hj:j<ks.length):
 -(B+100000000)≤R0 j∧R0 j≤B+100000000∧-(B+100000000)≤R1 j∧R1 j≤B+100000000∧0≤R2 j∧R2 j≤100000∧0≤R3 j∧R3 j≤100000:=by
 by_cases h0:kd=0;·obtain⟨G,g1,g2,g3⟩:=s.row h0;obtain⟨e0,e1,e2,e3⟩:=g3 j hj;have ho:=offs_bd g2 (cl_bd a4) j (by omega);have hg:=g2 j hj;omega
 ·by_cases h1:kd=1;·obtain⟨G,g1,g2,g3⟩:=s.col h1;obtain⟨e0,e1,e2,e3⟩:=g3 j hj;have ho:=offs_bd g2 (cl_bd a4) j (by omega);have hg:=g2 j hj;omega
  ·by_cases h3:kd=3;·have:=ins_parts (s.box h3 j hj);omega
   ·by_cases h4:kd=4;·obtain⟨e0,e1,e2,e3⟩:=s.scr h4 j hj;omega
    ·obtain⟨e0,e1,e2,e3⟩:=s.rest h0 h1 h3 h4 j hj;omega
theorem KrSpec.congr{kd a4 a5 a6:Int}{L:List Nd}{ks:List Nat}{Wd:Nat->Int}{H:Nat->Int->Int}{x y w h of rm x' y' w' h' of' rm':Int}{R0 R1 R2 R3:Nat->Int}(s:KrSpec kd a4 a5 a6 L ks Wd H x y w h of rm R0 R1 R2 R3)(e0:x=x')(e1:y=y')(e2:w=w')(e3:h=h')(e4:of=of')(e5:rm=rm'):KrSpec kd a4 a5 a6 L ks Wd H x' y' w' h' of' rm' R0 R1 R2 R3:=by subst e0 e1 e2 e3 e4 e5;exact s
theorem PlTo.step{s:ByteArray}{L:List Nd}{Wd:Nat->Int}{H:Nat->Int->Int}{w h:Int}{idf off:Nat->Int}{sn k:Nat}{P P1:Nat->Nat->Int}{R0 R1 R2 R3:Nat->Int}(hT:Tree s L)(hS:Sz L Wd H)(hp:PlTo L Wd H w h idf off sn P k)(hk:k<L.length)
 (h1:∀q t,¬(q=k∧(t=8∨t=9))->P1 q t=P q t)
 (h4:(nth L k).kind=4->P1 k 9=roomI (H (kdn (nth L k).kids 0) (P k 2)) (P k 3)∧P1 k 8=min (max 0 (offI (atN (nth L k) 0) idf off sn)) (P1 k 9))
 (hn:(nth L k).kind≠4->P1 k 8=0∧P1 k 9=0)
 (hs:KrSpec (nth L k).kind (atN (nth L k) 4) (atN (nth L k) 5) (atN (nth L k) 6) L (nth L k).kids Wd H (P1 k 0) (P1 k 1) (P1 k 2) (P1 k 3) (P1 k 8) (P1 k 9) R0 R1 R2 R3):
 PlTo L Wd H w h idf off sn (plK P1 k (nth L k).kids R0 R1 R2 R3 (nth L k).kids.length) (k+1):=by
 obtain⟨ks,hks⟩:=nmd ((nth L k).kids);rw[hks]at hs h4⊢;have hnd:ks.Nodup:=by rw[<-hks];exact hT.nest.nd k hk
 have hkid:∀c,c∈ks->k<c∧c<L.length∧(nth L c).up=(k:Int):=fun c hc=>hT.nest.kid k c hk (by show c∈(nth L k).kids;rw[hks];exact hc);have hlen:ks.length≤100:=by rw[<-hks];exact hT.kids_le hk
 obtain⟨Q,hQ⟩:=nmd (plK P1 k ks R0 R1 R2 R3 ks.length);have q1:∀q,q∉ks->Q q=P1 q:=fun q hq=>by rw[<-hQ];exact plK_other _ (fun t ht=>ht) q hq
 have q2:∀a,a<ks.length->Q (kdn ks a)=plV P1 k (R0 a) (R1 a) (R2 a) (R3 a):=fun a ha=>by rw[<-hQ];exact plK_kid hnd _ (Nat.le_refl _) a ha
 rw[hQ];have hkk:k∉ks:=fun hc=>by have:=(hkid k hc).1;omega
 have hQk:Q k=P1 k:=q1 k hkk;have h00:0∉ks:=fun hc=>by have:=(hkid 0 hc).1;omega
 have nk:∀i,i<k->i∉ks:=fun i hi hc=>by have:=(hkid i hc).1;omega
 have mem:∀c,c∈ks->∃a,a<ks.length∧kdn ks a=c:=fun c hc=>by obtain⟨a,ha,e⟩:=List.mem_iff_getElem.1 hc;exact⟨a,ha,by unfold kdn;rw[List.getElem?_eq_getElem ha];exact e⟩
 have hbk:=hp.bd k hk;have e01:P1 k 0=P k 0:=h1 k 0 (by omega);have e11:P1 k 1=P k 1:=h1 k 1 (by omega);have e21:P1 k 2=P k 2:=h1 k 2 (by omega);have e31:P1 k 3=P k 3:=h1 k 3 (by omega);have hor:0≤P1 k 8∧P1 k 8≤100000∧0≤P1 k 9∧P1 k 3+P1 k 9≤100000:=by
  by_cases e4:(nth L k).kind=4
  ·obtain⟨r1,r2⟩:=h4 e4;have hkid0:kdn ks 0<L.length:=by
    rcases hT.kidok k hk with q|⟨_,_,q⟩|⟨q,_⟩;·omega
    ·rw[hks]at q;exact(hkid _ (kdn_mem (by omega))).2.1
    ·omega
   have hh:=hS.hb (kdn ks 0) (P k 2) hkid0;unfold roomI at r1;omega
  ·obtain⟨r1,r2⟩:=hn e4;omega
 refine⟨?_,fun i hi hik e4=>?_,fun i hi hik=>?_,fun i hi hik=>?_,fun i hi=>?_⟩;·rw[q1 0 h00];have r:=hp.root;rw[h1 0 0 (by omega),h1 0 1 (by omega),h1 0 2 (by omega),h1 0 3 (by omega),h1 0 4 (by omega),h1 0 5 (by omega),h1 0 6 (by omega),h1 0 7 (by omega)];exact r
 ·by_cases e:i=k;·subst e;rw[hQk,hks,e21,e31];exact h4 e4
  ·rw[q1 i (nk i (by omega)),h1 i 9 (by omega),h1 i 8 (by omega),h1 i 2 (by omega),h1 i 3 (by omega)];exact hp.sc i hi (by omega) e4
 ·by_cases hm:i∈ks;·obtain⟨a,ha,rfl⟩:=mem i hm;rw[q2 a ha];exact⟨rfl,rfl⟩
  ·rw[q1 i hm];by_cases e:i=k;·subst e;exact hn (by rcases hik with q|q;omega;exact q)
   ·rw[h1 i 8 (by omega),h1 i 9 (by omega)];exact hp.no i hi (by rcases hik with q|q;exact .inl (by omega);exact .inr q)
 ·by_cases e:i=k;·subst e;refine⟨R0,R1,R2,R3,by rw[hks,hQk];exact hs,fun j hj t ht=>?_⟩;rw[hks]at hj⊢;rw[q2 j hj];unfold plV;rw[hQk]
  ·have hi':i<k:=by omega
   obtain⟨S0,S1,S2,S3,s1,s2⟩:=hp.kr i hi hi';have hQi:∀t,Q i t=P i t:=fun t=>by rw[q1 i (nk i hi')];exact h1 i t (by omega)
   refine⟨S0,S1,S2,S3,by rw[hQi,hQi,hQi,hQi,hQi,hQi];exact s1,fun j hj t ht=>?_⟩;have hc:=hT.nest.kid i _ hi (kdn_mem hj);have hcn:kdn (nth L i).kids j∉ks:=fun q=>by have:=(hkid _ q).2.2;have h9:(nth L (kdn (nth L i).kids j)).up=(i:Int):=hc.2.2;omega
   rw[q1 _ hcn,h1 _ t (by omega),s2 j hj t ht];unfold plV;rw[hQi,hQi,hQi,hQi]
 ·by_cases hm:i∈ks;·have hik:=hkid i hm;obtain⟨a,ha,rfl⟩:=mem i hm;rw[q2 a ha];have hb:=hs.bd hlen (by omega) (by omega) ⟨hor.1,hor.2.1⟩ ⟨hor.2.2.1,hor.2.2.2⟩ (((k:Int)+1)*100000000) (by omega) (by omega) (by omega) a ha;show-(((kdn ks a:Nat):Int)+1)*100000000≤R0 a∧_;show _≤R0 a∧R0 a≤_∧_≤R1 a∧R1 a≤_∧0≤R2 a∧R2 a≤100000∧0≤R3 a∧R3 a≤100000;omega
  ·rw[q1 i hm];have hb:=hp.bd i hi;rw[h1 i 0 (by omega),h1 i 1 (by omega),h1 i 2 (by omega),h1 i 3 (by omega)];exact hb
end
section
open Go.RowKit Go.Sort Go.Proofs.Tryz
theorem cS_const(a:Nat):∀m,cS (fun _=>a) m=a*m
 |0=>rfl
 |m+1=>by show cS (fun _=>a) m+a=_;rw[cS_const a m,Nat.mul_succ]
theorem kidRects_any{s:ByteArray}{L:List Nd}{KV:Nat->Value}{Wd:Nat->Int}{H:Nat->Int->Int}(mb r g cap wb nn:Nat)(hT:Tree s L)(hS:Sz L Wd H)(i:Nat)(hi:i<L.length)(p:Option Addr)(c:Nat)(hkv:KV i=.slice p (nth L i).kids.length c)(x y w h c0 c1 c2 c3 of rm:Int)(U:World)(hU:Hs U mb r g cap wb L KV Wd H nn)(hn:nn≤10000000)
 (hx:-1000000000000≤x∧x≤1000000000000) (hy:-1000000000000≤y∧y≤1000000000000) (hw:0≤w∧w≤100000) (hh:0≤h∧h≤100000) (hof:0≤of∧of≤100000) (hrm:0≤rm∧rm≤100000):
 Calls prog 53 #[Pq mb,ndA (nth L i).kind (atN (nth L i) 0) (atN (nth L i) 1) (atN (nth L i) 2) (atN (nth L i) 3) (atN (nth L i) 4) (atN (nth L i) 5) (atN (nth L i) 6) (atN (nth L i) 7) (atN (nth L i) 8) (atN (nth L i) 9) (atN (nth L i) 10) (atN (nth L i) 11) ⟨(nth L i).text.toArray⟩ (.slice p (nth L i).kids.length c) (nth L i).up,.agg #[Iq x,Iq y,Iq w,Iq h,Iq c0,Iq c1,Iq c2,Iq c3,Iq of,Iq rm]] U fun e U'=>KrOut U U' r (nth L i).kids.length H (nn+10000) (KrSpec (nth L i).kind (atN (nth L i) 4) (atN (nth L i) 5) (atN (nth L i) 6) L (nth L i).kids Wd H x y w h of rm) e:=by
 have hbd:=(hT.vl.nv i hi).bd;have hc:=hT.vl.cnt;have hkl:(nth L i).kids.length≤100:=hT.kids_le hi;have hki:IntsN U r p (nth L i).kids.length (fun t=>(kdn (nth L i).kids t:Int)):=by obtain⟨p',c',e,hk⟩:=hU.view.kid i hi;rw[hkv]at e;injection e with e1 e2 e3;rw[e1];exact hk
 have hcm:∀j,cS (fun _=>100) j=100*j:=cS_const 100;refine(kidRects_kind mb r nn _ L _ Wd H _ _ _ _ _ _ _ _ _ _ _ _ _ _ _ p c x y w h c0 c1 c2 c3 of rm U rfl (by omega) hU.memo hx hy hw hh (by omega) (by omega) hof hrm (fun _ u hu hmu=>?_) (fun _ u hu hmu=>?_)).mono fun e U' h=>h.mono (by omega);·refine(rowWants_any mb r g cap wb nn L (nth L i).kids KV Wd H _ _ _ _ _ _ _ _ _ _ _ _ _ _ _ p c u (hU.view.grown (grown_of_below hu)) hmu (by omega) (fun j hj=>(kid_lt hT hi hj).2) (by omega) (hki.grown (grown_of_below hu)) (fun j hj=>hS.wb j hj)).mono ?_;rintro e u' ⟨v,q0,lb,q1,q2,q3,q4,q5⟩;exact⟨v,q0,lb,q1,q2,q3,q4,q5.mono (by omega)⟩
 ·rw[<-hcm];exact colWants_any mb r g cap wb nn w L (nth L i).kids (fun _=>100) KV Wd H _ _ _ _ _ _ _ _ _ _ _ _ _ _ _ p c u (hU.view.grown (grown_of_below hu)) hmu (by omega) (fun j hj=>(kid_lt hT hi hj).2) (by omega) (hki.grown (grown_of_below hu)) (fun j v hj=>hS.hb j v hj) (fun j u' n' hj hu' hm' hn'=>by have hk:=kid_lt hT hi hj;rw[hcm]at hn'⊢;refine(height_any mb r g cap wb hT hS _ w n' u' hk.2 hw.1 hw.2 (hU.grown ((grown_of_below hu).trans hu') hm') (by omega)).mono ?_;rintro e u2 ⟨rfl,q1,q2⟩;exact⟨rfl,q1,q2.mono (by omega)⟩)
end
section
open Go.RowKit Go.Sort Go.Proofs.Tryz
theorem pw_put{U0 W:World}{r pb N n:Nat}{P:Nat->Nat->Int}{H:Nat->Int->Int}(h:Pw U0 W r pb N P H n)(hpb:U0.heap.size≤pb)(hne:pb≠r)(cc:Nat)(v:Nat->Int)(v0 v1 v2 v3 v4 v5 v6 v7 v8 v9:Int)(e0:v0=v 0)(e1:v1=v 1)(e2:v2=v 2)(e3:v3=v 3)(e4:v4=v 4)(e5:v5=v 5)(e6:v6=v 6)(e7:v7=v 7)(e8:v8=v 8)(e9:v9=v 9):Pw U0 ((((((((((W.setCell ⟨pb,cc*10,none⟩ (Iq v0)).setCell ⟨pb,cc*10+1,none⟩ (Iq v1)).setCell ⟨pb,cc*10+2,none⟩ (Iq v2)).setCell ⟨pb,cc*10+3,none⟩ (Iq v3)).setCell ⟨pb,cc*10+4,none⟩ (Iq v4)).setCell ⟨pb,cc*10+5,none⟩ (Iq v5)).setCell ⟨pb,cc*10+6,none⟩ (Iq v6)).setCell ⟨pb,cc*10+7,none⟩ (Iq v7)).setCell ⟨pb,cc*10+8,none⟩ (Iq v8)).setCell ⟨pb,cc*10+9,none⟩ (Iq v9)) r pb N (putPl P cc v) H n:=by
 have hh:=(((((((((h.set hpb hne cc 0 (by omega) v0).set hpb hne cc 1 (by omega) v1).set hpb hne cc 2 (by omega) v2).set hpb hne cc 3 (by omega) v3).set hpb hne cc 4 (by omega) v4).set hpb hne cc 5 (by omega) v5).set hpb hne cc 6 (by omega) v6).set hpb hne cc 7 (by omega) v7).set hpb hne cc 8 (by omega) v8).set hpb hne cc 9 (by omega) v9;refine⟨hh.g,hh.m,hh.row.congr fun q hq=>?_⟩;unfold pcF putPl putAt;refine congrArg (Value.int .i64) ?_;by_cases e:q/10=cc
 ·rw[if_pos e];have:q %10=0∨q %10=1∨q %10=2∨q %10=3∨q %10=4∨q %10=5∨q %10=6∨q %10=7∨q %10=8∨q %10=9:=by omega
  rcases this with f|f|f|f|f|f|f|f|f|f<;>simp[e,f,e0,e1,e2,e3,e4,e5,e6,e7,e8,e9]
 ·rw[if_neg e];simp[e]
theorem made_places(w:World)(N:Nat)(T:TypeId):(w.alloc (.cells (madeCells #[Iq 0,Iq 0,Iq 0,Iq 0,Iq 0,Iq 0,Iq 0,Iq 0,Iq 0,Iq 0] (N*10)) T)).rowIs w.heap.size T (N*10) (pcF fun _ _=>0):=by
 have:=World.rowIs_alloc w (madeCells #[Iq 0,Iq 0,Iq 0,Iq 0,Iq 0,Iq 0,Iq 0,Iq 0,Iq 0,Iq 0] (N*10)) T (pcF fun _ _=>0) (fun i hi=>by
  rw[size_madeCells]at hi;unfold pcF;simp only[madeCells];have:i %10=0∨i %10=1∨i %10=2∨i %10=3∨i %10=4∨i %10=5∨i %10=6∨i %10=7∨i %10=8∨i %10=9:=by omega
  rcases this with e|e|e|e|e|e|e|e|e|e<;>simp[e,hi]);rw[size_madeCells]at this;exact this
theorem infoPl:(prog.info? 63).map (fun i=>(i.zero,i.size,i.bytes))=some (some (.agg #[Iq 0,Iq 0,Iq 0,Iq 0,Iq 0,Iq 0,Iq 0,Iq 0,Iq 0,Iq 0]),10,80):=by kernel_rfl
def PlOut(U U':World)(r N:Nat)(L:List Nd)(Wd:Nat->Int)(H:Nat->Int->Int)(w h:Int)(idf off:Nat->Int)(sn:Nat)(e:Ending):Prop:=∃pb P,e=.returned (Sq pb N N)∧U'.rowIs pb 63 (N*10) (pcF P)∧PlTo L Wd H w h idf off sn P N∧U.grownBy U' (some r)∧U.heap.size≤pb
def p00(w h:Int)(t:Nat):Int:=if t=2∨t=6 then w else if t=3∨t=7 then h else 0
def tw(u:World)(pb o:Nat)(x0 x1 x2 x3 x4 x5 x6 x7 x8 x9:Int):World:=((((((((((u.setCell ⟨pb,o,none⟩ (Iq x0)).setCell ⟨pb,o+1,none⟩ (Iq x1)).setCell ⟨pb,o+2,none⟩ (Iq x2)).setCell ⟨pb,o+3,none⟩ (Iq x3)).setCell ⟨pb,o+4,none⟩ (Iq x4)).setCell ⟨pb,o+5,none⟩ (Iq x5)).setCell ⟨pb,o+6,none⟩ (Iq x6)).setCell ⟨pb,o+7,none⟩ (Iq x7)).setCell ⟨pb,o+8,none⟩ (Iq x8)).setCell ⟨pb,o+9,none⟩ (Iq x9))
theorem tw_cell{u:World}{pb o:Nat}{x0 x1 x2 x3 x4 x5 x6 x7 x8 x9:Int}(b' o':Nat)(h:b'≠pb∨o'<o∨o+9<o'):(tw u pb o x0 x1 x2 x3 x4 x5 x6 x7 x8 x9).cell? ⟨b',o',none⟩=u.cell? ⟨b',o',none⟩:=by
 unfold tw;iterate 10 rw[World.cell?_setCell_other]
 all_goals(intro e;injection e with e f _;omega)
theorem tw_heap{u:World}{pb o:Nat}{x0 x1 x2 x3 x4 x5 x6 x7 x8 x9:Int}(b':Nat)(h:b'≠pb):(tw u pb o x0 x1 x2 x3 x4 x5 x6 x7 x8 x9).heap[b']?=u.heap[b']?:=by unfold tw;iterate 10 rw[Below.heap_setCell _ ⟨pb,_,none⟩ _ _ h]
theorem places_any{s:ByteArray}{L:List Nd}{KV:Nat->Value}{Wd:Nat->Int}{H:Nat->Int->Int}(mb r g cap wb:Nat)(hT:Tree s L)(hS:Sz L Wd H)(w h:Int)(sp:Option Addr)(sn sc:Nat)(idf off:Nat->Int)(U:World)(hU:Hs U mb r g cap wb L KV Wd H 0)(hw:1≤w∧w≤400)(hh:1≤h∧h≤400)(hsc:Scr U sp sn idf off)(hsn:sn≤4611686018427387904)(hsp:∀a:Addr,sp=some a->a.block<U.heap.size):
 Calls prog 25 #[Pq mb,Iq w,Iq h,.slice sp sn sc] U fun e U'=>PlOut U U' r L.length L Wd H w h idf off sn e:=by
 have hmix:prog.follows .mixedOrders=true:=by kernel_rfl
 obtain⟨N,hN⟩:=nmd L.length;have hc:=hT.vl.cnt;have hpos:=hT.pos;have hN100:N≤100:=by omega
 obtain⟨i0,hi,hz0,hz1,hz2⟩:=info_parts infoPl;have hmk:∀W:World,(Instr.makeSlice 44 (Iq (N:Int)) (Iq (N:Int))).run prog W=.ok (Sq W.heap.size N N) (W.alloc (.cells (madeCells #[Iq 0,Iq 0,Iq 0,Iq 0,Iq 0,Iq 0,Iq 0,Iq 0,Iq 0,Iq 0] (N*10)) 63)):=fun W=>by have:=run_make (P:=prog) W 44 63 i0 _ underlying44 hi hz0 .i64 .i64 N N (by omega) (Int.le_refl _) (by rw[hz2];omega) (by omega);rw[hz1,Int.toNat_natCast]at this;exact this
 clear hi hz0 hz1 hz2;obtain⟨A,hA⟩:=nmd U.heap.size;obtain⟨pb,hpb⟩:=nmd (A+1);have hms:=hU.view.ms;rw[hN]at hms;have HMS:Hid (∀u,U.grownBy u (some r)->u.cell? ⟨mb,0,none⟩=some (Sq g N cap)):=fun u hu=>by have:=(hu.block mb hU.view.ml (fun e=>hU.view.mr (by injection e))).trans hms;rw[Lib.cell_of_heap this];rfl
 have m0:=HMS U (grown_of_below (Below.refl _ _));have hrl:=hU.memo.lt;have hpr:pb≠r:=by omega
 have hpU:U.heap.size≤pb:=by omega
 have HU:Hid (Hs U mb r g cap wb L KV Wd H 0):=hU;obtain⟨W2,hW2⟩:=nmd ((U.alloc (.cells #[Iq 0,Iq 0,Iq w,Iq h] 56)).alloc (.cells (madeCells #[Iq 0,Iq 0,Iq 0,Iq 0,Iq 0,Iq 0,Iq 0,Iq 0,Iq 0,Iq 0] (N*10)) 63));have HB2:Hid (Below U.heap.size U W2):=by rw[<-hW2];exact(((Gr.refl U).alloc _).alloc _).below
 have hs2:W2.heap[A]?=some (.cells #[Iq 0,Iq 0,Iq w,Iq h] 56 (0,0)):=by rw[<-hW2,<-hA,Below.heap_alloc _ _ _ (by rw[World.size_alloc];omega)];exact heap_alloc_new _ _
 have hr2:W2.rowIs pb 63 (N*10) (pcF fun _ _=>0):=by have:=made_places (U.alloc (.cells #[Iq 0,Iq 0,Iq w,Iq h] 56)) N 63;rw[World.size_alloc,hA,hpb,hW2]at this;exact this
 have HP2:Hid (Pw U W2 r pb N (fun _ _=>0) H 0):=⟨grown_of_below HB2,hU.memo.grown_below HB2,hr2⟩;have HP3:Hid (Pw U ((((((((((W2.setCell ⟨pb,0,none⟩ (Iq 0)).setCell ⟨pb,1,none⟩ (Iq 0)).setCell ⟨pb,2,none⟩ (Iq w)).setCell ⟨pb,3,none⟩ (Iq h)).setCell ⟨pb,4,none⟩ (Iq 0)).setCell ⟨pb,5,none⟩ (Iq 0)).setCell ⟨pb,6,none⟩ (Iq w)).setCell ⟨pb,7,none⟩ (Iq h)).setCell ⟨pb,8,none⟩ (Iq 0)).setCell ⟨pb,9,none⟩ (Iq 0)) r pb N (putPl (fun _ _=>0) 0 (p00 w h)) H 0):=pw_put HP2 hpU hpr 0 (p00 w h) 0 0 w h 0 0 w h 0 0 rfl rfl rfl rfl rfl rfl rfl rfl rfl rfl;have HPL:Hid (PlTo L Wd H w h idf off sn (putPl (fun _ _=>0) 0 (p00 w h)) 0):=by
  have e0:∀i t,i≠0->putPl (fun _ _=>0) 0 (p00 w h) i t=0:=fun i t hi=>if_neg hi;refine⟨⟨rfl,rfl,rfl,rfl,rfl,rfl,rfl,rfl⟩,fun i _ hi=>by omega,fun i _ _=>?_,fun i _ hi=>by omega,fun i _=>?_⟩
  ·by_cases e:i=0;·subst e;exact⟨rfl,rfl⟩
   ·rw[e0 i 8 e,e0 i 9 e];exact⟨rfl,rfl⟩
  ·by_cases e:i=0;·subst e;show _≤(0:Int)∧(0:Int)≤_∧_≤(0:Int)∧(0:Int)≤_∧0≤w∧w≤100000∧0≤h∧h≤100000;omega
   ·rw[e0 i 0 e,e0 i 1 e,e0 i 2 e,e0 i 3 e];omega
 have c0:W2.cell? ⟨A,0,none⟩=some (Iq 0):=by rw[Lib.cell_of_heap hs2];rfl
 have c1:W2.cell? ⟨A,1,none⟩=some (Iq 0):=by rw[Lib.cell_of_heap hs2];rfl
 have c2:W2.cell? ⟨A,2,none⟩=some (Iq w):=by rw[Lib.cell_of_heap hs2];rfl
 have c3:W2.cell? ⟨A,3,none⟩=some (Iq h):=by rw[Lib.cell_of_heap hs2];rfl
 have m2:=HMS W2 (grown_of_below HB2);have hfr:∀j,W2.frozen? ⟨pb,j,none⟩=false:=fun j=>hr2.frozen j;have d0:W2.cell? ⟨pb,0,none⟩=some (Iq 0):=hr2.cell (by omega);have d1:W2.cell? ⟨pb,1,none⟩=some (Iq 0):=hr2.cell (by omega);have d2:W2.cell? ⟨pb,2,none⟩=some (Iq 0):=hr2.cell (by omega);have d3:W2.cell? ⟨pb,3,none⟩=some (Iq 0):=hr2.cell (by omega);have d4:W2.cell? ⟨pb,4,none⟩=some (Iq 0):=hr2.cell (by omega);have d5:W2.cell? ⟨pb,5,none⟩=some (Iq 0):=hr2.cell (by omega);have d6:W2.cell? ⟨pb,6,none⟩=some (Iq 0):=hr2.cell (by omega);have d7:W2.cell? ⟨pb,7,none⟩=some (Iq 0):=hr2.cell (by omega);have d8:W2.cell? ⟨pb,8,none⟩=some (Iq 0):=hr2.cell (by omega);have d9:W2.cell? ⟨pb,9,none⟩=some (Iq 0):=hr2.cell (by omega);have hpl:pb<W2.heap.size:=hr2.lt;have hposI:(0:Int)<(N:Int):=by omega
 have hneA:¬pb=mb:=by have:=HU.view.ml;omega
 have hneB:¬mb=pb:=by omega
 have hneC:¬A=pb:=by omega
 have hneE:¬mb=A:=by have:=HU.view.ml;omega
 have hneF:mb<A:=by have:=HU.view.ml;omega
 have hneD:¬pb=A:=by omega
 have HUA:Hid (U.heap.size=A∧A+1=pb):=⟨hA,hpb⟩;clear hms hs2 hr2 hU;go_enter func25,ntmps25;go_upto_region 3 with fail;clear hW2 hA hmk hpb m0;go_wp2_with fail;go_loopw[34] (fun iv wr=>∃(i:Nat) (P:Nat->Nat->Int),i≤N∧iv=Iq (i:Int)∧Hid (Pw U wr r pb N P H (20000*i))∧Hid (PlTo L Wd H w h idf off sn P i)) (fun iv _=>N-(intOf iv).toNat);case atStart=>exact⟨0,_,Nat.zero_le _,rfl,HP3,HPL⟩
 case round=>
  obtain⟨i,P,hiN,rfl,HP,HL⟩:=hrel;clear c0 c1 c2 c3 m2 hfr d0 d1 d2 d3 d4 d5 d6 d7 d8 d9 hpl HP2 HP3 HPL;by_cases hlt:i<N
  ·have hlt':(i:Int)<(N:Int):=by omega
   have hiL:i<L.length:=by omega
   have hHs:∀u n,U.grownBy u (some r)->Memo u r H n->Hs u mb r g cap wb L KV Wd H n:=fun u n hg hm=>HU.grown hg hm;obtain⟨p,c,hkv,hki⟩:=HU.view.kid i hiL;have hcells:=pn_list (HU.view.len i hiL) (KV i);have hnd:=HU.view.nd i hiL;rw[hcells,hkv]at hnd;have hgl:=HU.view.gl;have hgr:=HU.view.gr;have hbd:=HL.bd i hiL;have hbN:((i:Int)+1)*100000000≤10000000000:=by omega
   have hnoi:=HL.no i hiL (.inl (Nat.le_refl _));have hkl:(nth L i).kids.length≤100:=hT.kids_le hiL;have hmi:=HP.out;have KR:Hid (∀u n (of rm c0 c1 c2 c3:Int),U.grownBy u (some r)->Memo u r H n->n≤10000000->(0≤of∧of≤100000)->(0≤rm∧rm≤100000)->Calls prog 53 #[Pq mb,ndA (nth L i).kind (atN (nth L i) 0) (atN (nth L i) 1) (atN (nth L i) 2) (atN (nth L i) 3) (atN (nth L i) 4) (atN (nth L i) 5) (atN (nth L i) 6) (atN (nth L i) 7) (atN (nth L i) 8) (atN (nth L i) 9) (atN (nth L i) 10) (atN (nth L i) 11) ⟨(nth L i).text.toArray⟩ (.slice p (nth L i).kids.length c) (nth L i).up,.agg #[Iq (P i 0),Iq (P i 1),Iq (P i 2),Iq (P i 3),Iq c0,Iq c1,Iq c2,Iq c3,Iq of,Iq rm]] u fun e u'=>KrOut u u' r (nth L i).kids.length H (n+10000) (KrSpec (nth L i).kind (atN (nth L i) 4) (atN (nth L i) 5) (atN (nth L i) 6) L (nth L i).kids Wd H (P i 0) (P i 1) (P i 2) (P i 3) of rm) e):=fun u n of rm c0 c1 c2 c3 hg hm hn hof hrm=>
    kidRects_any mb r g cap wb n hT hS i hiL p c hkv (P i 0) (P i 1) (P i 2) (P i 3) c0 c1 c2 c3 of rm u (hHs u n hg hm) hn (by omega) (by omega) ⟨hbd.2.2.2.2.1,hbd.2.2.2.2.2.1⟩ ⟨hbd.2.2.2.2.2.2.1,hbd.2.2.2.2.2.2.2⟩ hof hrm;have SCR:Hid ((nth L i).kind=4->∀u,Pw U u r pb N P H (20000*i)->Calls prog 52 #[Pq mb,.pointer (some ⟨pb,i*10,none⟩),ndA 4 (atN (nth L i) 0) (atN (nth L i) 1) (atN (nth L i) 2) (atN (nth L i) 3) (atN (nth L i) 4) (atN (nth L i) 5) (atN (nth L i) 6) (atN (nth L i) 7) (atN (nth L i) 8) (atN (nth L i) 9) (atN (nth L i) 10) (atN (nth L i) 11) ⟨(nth L i).text.toArray⟩ (.slice p (nth L i).kids.length c) (nth L i).up,.slice sp sn sc] u fun e u'=>e=.returned (.tuple #[])∧Pw U u' r pb N (putAt (putAt P i 9 (roomI (H (kdn (nth L i).kids 0) (P i 2)) (P i 3))) i 8 (min (max 0 (offI (atN (nth L i) 0) idf off sn)) (roomI (H (kdn (nth L i).kids 0) (P i 2)) (P i 3)))) H (20000*i+100)∧Hid (∀b,b<u.heap.size->b≠r->b≠pb->u'.heap[b]?=u.heap[b]?)):=fun h4 u hu=>by
    have hk1:(nth L i).kids.length=1:=by
     rcases hT.kidok i hiL with q|⟨_,_,q⟩|⟨q,_⟩;·omega
     ·exact q
     ·omega
    have hkd:=kid_lt hT hiL (j:=0) (by omega);refine scroll_any mb r pb N i (kdn (nth L i).kids 0) (20000*i) P H (atN (nth L i) 0) (atN (nth L i) 1) (atN (nth L i) 2) (atN (nth L i) 3) (atN (nth L i) 4) (atN (nth L i) 5) (atN (nth L i) 6) (atN (nth L i) 7) (atN (nth L i) 8) (atN (nth L i) 9) (atN (nth L i) 10) (atN (nth L i) 11) (nth L i).up ⟨(nth L i).text.toArray⟩ p (nth L i).kids.length c sp sn sc idf off U u hu hpU hpr hlt (by omega) (by omega) ?_ (hS.hb _ _ hkd.2) ⟨hbd.2.2.2.2.2.2.1,hbd.2.2.2.2.2.2.2⟩ (fun v hv=>height_any mb r g cap wb hT hS _ _ _ v hkd.2 hbd.2.2.2.2.1 hbd.2.2.2.2.2.1 (hHs v _ hv.g hv.m) (by omega)) (fun v P' n' hv=>?_);·obtain⟨b,o,e,q1,q2,q3⟩:=hki.resolve_left (by omega);exact⟨b,o,e,q1,q2,by have:=q3 0 (by omega);exact this⟩
    ·refine(offset_any (atN (nth L i) 0) sp sn sc idf off v ((hsc.kept HU.memo hv.g)) hsn (fun a e=>Nat.lt_of_lt_of_le (hsp a e) hv.g.size)).mono ?_;rintro e v' ⟨rfl,q⟩;exact⟨rfl,q⟩
   have HKI:Hid (∀j,j<(nth L i).kids.length->i<kdn (nth L i).kids j∧kdn (nth L i).kids j<N):=fun j hj=>by have:=kid_lt hT hiL hj;omega
   have HKP:Hid ((nth L i).kind=4->0<(nth L i).kids.length):=fun h4=>by rcases hT.kidok i hiL with q|⟨_,_,q⟩|⟨q,_⟩<;>omega
   have HKB:Hid ((nth L i).kids.length=0∨∃b o,p=some ⟨b,o,none⟩∧b<U.heap.size∧b≠r∧∀j,j<(nth L i).kids.length->U.cell? ⟨b,o+j,none⟩=some (Iq (kdn (nth L i).kids j:Int))):=hki;have HSTEP:Hid (∀P1 R0 R1 R2 R3,(∀q t,¬(q=i∧(t=8∨t=9))->P1 q t=P q t)->((nth L i).kind=4->P1 i 9=roomI (H (kdn (nth L i).kids 0) (P i 2)) (P i 3)∧P1 i 8=min (max 0 (offI (atN (nth L i) 0) idf off sn)) (P1 i 9))->((nth L i).kind≠4->P1 i 8=0∧P1 i 9=0)->KrSpec (nth L i).kind (atN (nth L i) 4) (atN (nth L i) 5) (atN (nth L i) 6) L (nth L i).kids Wd H (P1 i 0) (P1 i 1) (P1 i 2) (P1 i 3) (P1 i 8) (P1 i 9) R0 R1 R2 R3->PlTo L Wd H w h idf off sn (plK P1 i (nth L i).kids R0 R1 R2 R3 (nth L i).kids.length) (i+1)):=fun P1 R0 R1 R2 R3 q1 q2 q3 q4=>HL.step hT hS hiL q1 q2 q3 q4;generalize hkn:(nth L i).kind=kn at hnd KR SCR HSTEP HKP;generalize(nth L i).kids=ks at hnd KR SCR HSTEP HKI HKB HKP hkl;generalize(nth L i).up=up at hnd KR SCR;generalize(nth L i).text.toArray=txa at hnd KR SCR;generalize atN (nth L i) 0=a0 at hnd KR SCR HSTEP;generalize atN (nth L i) 1=a1 at hnd KR SCR HSTEP;generalize atN (nth L i) 2=a2 at hnd KR SCR HSTEP;generalize atN (nth L i) 3=a3 at hnd KR SCR HSTEP;generalize atN (nth L i) 4=a4 at hnd KR SCR HSTEP;generalize atN (nth L i) 5=a5 at hnd KR SCR HSTEP;generalize atN (nth L i) 6=a6 at hnd KR SCR HSTEP;generalize atN (nth L i) 7=a7 at hnd KR SCR HSTEP;generalize atN (nth L i) 8=a8 at hnd KR SCR HSTEP;generalize atN (nth L i) 9=a9 at hnd KR SCR HSTEP;generalize atN (nth L i) 10=b0 at hnd KR SCR HSTEP;generalize atN (nth L i) 11=b1 at hnd KR SCR HSTEP;obtain⟨tx,htx⟩:∃z:ByteArray,⟨txa⟩=z:=⟨_,rfl⟩;rw[htx]at hnd KR SCR;obtain⟨m,hm⟩:=nmd ks.length;rw[hm]at hnd KR SCR HSTEP HKI HKB HKP hkl;obtain⟨kd,hkd⟩:∃z:Int,(kn:Int)=z:=⟨_,rfl⟩;rw[hkd]at hnd KR HSTEP;have HQ:Hid (∀u,U.grownBy u (some r)->∀(t:Nat) x,[Iq kd,Iq a0,Iq a1,Iq a2,Iq a3,Iq a4,Iq a5,Iq a6,Iq a7,Iq a8,Iq a9,Iq b0,Iq b1,.string tx,.slice p m c,Iq up][t]?=some x->u.cell? ⟨g,i*16+t,none⟩=some x):=fun u hu t x ht=>(World.cell?_of_block (a:=⟨g,i*16+t,none⟩) (hu.block g hgl (fun e=>hgr (by injection e)))).trans (hnd t x ht);have q0:wr.cell? ⟨g,i*16,none⟩=some (Iq kd):=HQ wr HP.g 0 _ rfl;have q1:wr.cell? ⟨g,i*16+1,none⟩=some (Iq a0):=HQ wr HP.g 1 _ rfl;have q2:wr.cell? ⟨g,i*16+2,none⟩=some (Iq a1):=HQ wr HP.g 2 _ rfl;have q3:wr.cell? ⟨g,i*16+3,none⟩=some (Iq a2):=HQ wr HP.g 3 _ rfl;have q4:wr.cell? ⟨g,i*16+4,none⟩=some (Iq a3):=HQ wr HP.g 4 _ rfl;have q5:wr.cell? ⟨g,i*16+5,none⟩=some (Iq a4):=HQ wr HP.g 5 _ rfl;have q6:wr.cell? ⟨g,i*16+6,none⟩=some (Iq a5):=HQ wr HP.g 6 _ rfl;have q7:wr.cell? ⟨g,i*16+7,none⟩=some (Iq a6):=HQ wr HP.g 7 _ rfl;have q8:wr.cell? ⟨g,i*16+8,none⟩=some (Iq a7):=HQ wr HP.g 8 _ rfl;have q9:wr.cell? ⟨g,i*16+9,none⟩=some (Iq a8):=HQ wr HP.g 9 _ rfl;have q10:wr.cell? ⟨g,i*16+10,none⟩=some (Iq a9):=HQ wr HP.g 10 _ rfl;have q11:wr.cell? ⟨g,i*16+11,none⟩=some (Iq b0):=HQ wr HP.g 11 _ rfl;have q12:wr.cell? ⟨g,i*16+12,none⟩=some (Iq b1):=HQ wr HP.g 12 _ rfl;have q13:wr.cell? ⟨g,i*16+13,none⟩=some (.string tx):=HQ wr HP.g 13 _ rfl;have q14:wr.cell? ⟨g,i*16+14,none⟩=some (.slice p m c):=HQ wr HP.g 14 _ rfl;have q15:wr.cell? ⟨g,i*16+15,none⟩=some (Iq up):=HQ wr HP.g 15 _ rfl;obtain⟨W1,hW1⟩:=nmd (wr.alloc (.cells #[Iq kd,Iq a0,Iq a1,Iq a2,Iq a3,Iq a4,Iq a5,Iq a6,Iq a7,Iq a8,Iq a9,Iq b0,Iq b1,.string tx,.slice p m c,Iq up] 61));obtain⟨An,hAn⟩:=nmd wr.heap.size;have hat:W1.heap[An]?=some (.cells #[Iq kd,Iq a0,Iq a1,Iq a2,Iq a3,Iq a4,Iq a5,Iq a6,Iq a7,Iq a8,Iq a9,Iq b0,Iq b1,.string tx,.slice p m c,Iq up] 61 (0,0)):=by rw[<-hW1,<-hAn];exact heap_alloc_new _ _
   have HB1:Hid (Below wr.heap.size wr W1):=by rw[<-hW1];exact((Gr.refl wr).alloc _).below
   have HP1:Hid (Pw U W1 r pb N P H (20000*i)):=HP.below HB1;have hAr:An≠r:=by have:=HP.m.lt;omega
   have hpA:pb<An:=by rw[<-hAn];exact HP.row.lt
   have HNC:Hid (∀u:World,u.heap[An]?=some (.cells #[Iq kd,Iq a0,Iq a1,Iq a2,Iq a3,Iq a4,Iq a5,Iq a6,Iq a7,Iq a8,Iq a9,Iq b0,Iq b1,.string tx,.slice p m c,Iq up] 61 (0,0))->u.cell? ⟨An,0,none⟩=some (Iq kd)∧u.cell? ⟨An,1,none⟩=some (Iq a0)∧u.cell? ⟨An,2,none⟩=some (Iq a1)∧u.cell? ⟨An,3,none⟩=some (Iq a2)∧u.cell? ⟨An,4,none⟩=some (Iq a3)∧u.cell? ⟨An,5,none⟩=some (Iq a4)∧u.cell? ⟨An,6,none⟩=some (Iq a5)∧u.cell? ⟨An,7,none⟩=some (Iq a6)∧u.cell? ⟨An,8,none⟩=some (Iq a7)∧u.cell? ⟨An,9,none⟩=some (Iq a8)∧u.cell? ⟨An,10,none⟩=some (Iq a9)∧u.cell? ⟨An,11,none⟩=some (Iq b0)∧u.cell? ⟨An,12,none⟩=some (Iq b1)∧u.cell? ⟨An,13,none⟩=some (.string tx)∧u.cell? ⟨An,14,none⟩=some (.slice p m c)∧u.cell? ⟨An,15,none⟩=some (Iq up)):=fun u hu=>by refine⟨?_,?_,?_,?_,?_,?_,?_,?_,?_,?_,?_,?_,?_,?_,?_,?_⟩<;>(rw[Lib.cell_of_heap hu];rfl)
   obtain⟨z0,z1,z2,z3,z4,z5,z6,z7,z8,z9,z10,z11,z12,z13,z14,z15⟩:=HNC W1 hat;have HAT:Hid (W1.heap[An]?=some (.cells #[Iq kd,Iq a0,Iq a1,Iq a2,Iq a3,Iq a4,Iq a5,Iq a6,Iq a7,Iq a8,Iq a9,Iq b0,Iq b1,.string tx,.slice p m c,Iq up] 61 (0,0))):=hat;have HKN:Hid ((nth L i).kind=kn∧(kn:Int)=kd):=⟨hkn,hkd⟩;have HBD:Hid (-(((i:Int)+1)*100000000)≤P i 0∧P i 0≤((i:Int)+1)*100000000∧-(((i:Int)+1)*100000000)≤P i 1∧P i 1≤((i:Int)+1)*100000000∧0≤P i 2∧P i 2≤100000∧0≤P i 3∧P i 3≤100000):=hbd;have HNO:Hid (P i 8=0∧P i 9=0):=hnoi;have HN1:Hid (N≤100∧L.length=N):=⟨hN100,hN⟩;have HMK:Hid (ks.length=m):=hm;clear hat hnd hcells hkv hki hgl hgr hHs hmi htx hkn hkd hbd hnoi hbN hm;go_upto_if 41 with fail;go_cut[48]from 42 to 47 (fun _ wx=>∃P1,Hid (Pw U wx r pb N P1 H (20000*i+100))∧Hid (∀q t,¬(q=i∧(t=8∨t=9))->P1 q t=P q t)∧Hid ((kn=4->P1 i 9=roomI (H (kdn ks 0) (P i 2)) (P i 3)∧P1 i 8=min (max 0 (offI a0 idf off sn)) (P1 i 9))∧(kn≠4->P1 i 8=0∧P1 i 9=0))∧Hid (wx.heap[An]?=some (.cells #[Iq kd,Iq a0,Iq a1,Iq a2,Iq a3,Iq a4,Iq a5,Iq a6,Iq a7,Iq a8,Iq a9,Iq b0,Iq b1,.string tx,.slice p m c,Iq up] 61 (0,0))));case first=>
    by_cases h4:kn=4
    ·have hk4:kd=4:=by have:=HKN.2;omega
     subst hk4;have SC1:Hid (∀u,(u=W1∨u=W1.drew)->Calls prog 52 #[Pq mb,.pointer (some ⟨pb,i*10,none⟩),ndA 4 a0 a1 a2 a3 a4 a5 a6 a7 a8 a9 b0 b1 tx (.slice p m c) up,.slice sp sn sc] u fun e u'=>e=.returned (.tuple #[])∧u'.heap[An]?=some (.cells #[Iq 4,Iq a0,Iq a1,Iq a2,Iq a3,Iq a4,Iq a5,Iq a6,Iq a7,Iq a8,Iq a9,Iq b0,Iq b1,.string tx,.slice p m c,Iq up] 61 (0,0))∧Hid (Pw U u' r pb N (putAt (putAt P i 9 (roomI (H (kdn ks 0) (P i 2)) (P i 3))) i 8 (min (max 0 (offI a0 idf off sn)) (roomI (H (kdn ks 0) (P i 2)) (P i 3)))) H (20000*i+100))):=fun u hu=>by
      have hbu:Below W1.heap.size W1 u:=by
       rcases hu with rfl|rfl;·exact Below.refl _ _
       ·exact(Below.refl _ _).drew
      refine(SCR h4 u (HP1.below hbu)).mono ?_;rintro e u' ⟨rfl,q1,q2⟩;have hal:=(Array.getElem?_eq_some_iff.1 HAT).1;exact⟨rfl,(q2 An (Nat.lt_of_lt_of_le hal hbu.size) hAr (by omega)).trans ((hbu.block An hal).trans HAT),q1⟩
     have HFIN:Hid (∀wx,wx.heap[An]?=some (.cells #[Iq 4,Iq a0,Iq a1,Iq a2,Iq a3,Iq a4,Iq a5,Iq a6,Iq a7,Iq a8,Iq a9,Iq b0,Iq b1,.string tx,.slice p m c,Iq up] 61 (0,0))->Pw U wx r pb N (putAt (putAt P i 9 (roomI (H (kdn ks 0) (P i 2)) (P i 3))) i 8 (min (max 0 (offI a0 idf off sn)) (roomI (H (kdn ks 0) (P i 2)) (P i 3)))) H (20000*i+100)->∃P1,Hid (Pw U wx r pb N P1 H (20000*i+100))∧Hid (∀q t,¬(q=i∧(t=8∨t=9))->P1 q t=P q t)∧Hid ((kn=4->P1 i 9=roomI (H (kdn ks 0) (P i 2)) (P i 3)∧P1 i 8=min (max 0 (offI a0 idf off sn)) (P1 i 9))∧(kn≠4->P1 i 8=0∧P1 i 9=0))∧Hid (wx.heap[An]?=some (.cells #[Iq 4,Iq a0,Iq a1,Iq a2,Iq a3,Iq a4,Iq a5,Iq a6,Iq a7,Iq a8,Iq a9,Iq b0,Iq b1,.string tx,.slice p m c,Iq up] 61 (0,0)))):=fun wx hn hp=>by
      refine⟨_,hp,fun q t hq=>?_,⟨fun _=>?_,fun e=>absurd h4 e⟩,hn⟩;·unfold putAt;rw[if_neg (fun e=>hq ⟨e.1,.inl e.2⟩),if_neg (fun e=>hq ⟨e.1,.inr e.2⟩)]
      ·unfold putAt;simp
     unfold ndA at SC1;clear hW1 hAn;go_wp2_with fail;go_region_held(fun W=>W.cell? ⟨An,0,none⟩=some (Iq 4)∧W.cell? ⟨An,1,none⟩=some (Iq a0)∧W.cell? ⟨An,2,none⟩=some (Iq a1)∧W.cell? ⟨An,3,none⟩=some (Iq a2)∧W.cell? ⟨An,4,none⟩=some (Iq a3)∧W.cell? ⟨An,5,none⟩=some (Iq a4)∧W.cell? ⟨An,6,none⟩=some (Iq a5)∧W.cell? ⟨An,7,none⟩=some (Iq a6)∧W.cell? ⟨An,8,none⟩=some (Iq a7)∧W.cell? ⟨An,9,none⟩=some (Iq a8)∧W.cell? ⟨An,10,none⟩=some (Iq a9)∧W.cell? ⟨An,11,none⟩=some (Iq b0)∧W.cell? ⟨An,12,none⟩=some (Iq b1)∧W.cell? ⟨An,13,none⟩=some (.string tx)∧W.cell? ⟨An,14,none⟩=some (.slice p m c)∧W.cell? ⟨An,15,none⟩=some (Iq up)) (go_keep) (first|(go_at_call 52;refine Calls.mono (SC1 _ (by first|exact .inl rfl|exact .inr rfl)) ?_;rintro e u1 ⟨rfl,hu1,HPu⟩;obtain⟨s0,s1,s2,s3,s4,s5,s6,s7,s8,s9,s10,s11,s12,s13,s14,s15⟩:=HNC u1 hu1;have HUN:Hid (u1.heap[An]?=some (.cells #[Iq 4,Iq a0,Iq a1,Iq a2,Iq a3,Iq a4,Iq a5,Iq a6,Iq a7,Iq a8,Iq a9,Iq b0,Iq b1,.string tx,.slice p m c,Iq up] 61 (0,0))):=hu1;clear hu1));all_goals go_wp2_with fail
     all_goals go_meet
     all_goals exact HFIN _ HUN HPu
    ·have e4:(kd==4)=false:=by have:=HKN.2;simp;omega
     go_wp2_with fail;go_meet;exact⟨P,HP1.mono (by omega),fun _ _ _=>rfl,⟨fun e=>absurd e h4,fun _=>HNO⟩,HAT⟩
   case rest=>
    obtain⟨P1,HP1c,HPE,HPK,HNc⟩:=hcut;clear z0 z1 z2 z3 z4 z5 z6 z7 z8 z9 z10 z11 z12 z13 z14 z15 hW1 hAn;obtain⟨z0,z1,z2,z3,z4,z5,z6,z7,z8,z9,z10,z11,z12,z13,z14,z15⟩:=HNC wc HNc;obtain⟨p0,hp0⟩:=nmd (P1 i 0);obtain⟨p1,hp1⟩:=nmd (P1 i 1);obtain⟨p2,hp2⟩:=nmd (P1 i 2);obtain⟨p3,hp3⟩:=nmd (P1 i 3);obtain⟨p4,hp4⟩:=nmd (P1 i 4);obtain⟨p5,hp5⟩:=nmd (P1 i 5);obtain⟨p6,hp6⟩:=nmd (P1 i 6);obtain⟨p7,hp7⟩:=nmd (P1 i 7);obtain⟨p8,hp8⟩:=nmd (P1 i 8);obtain⟨p9,hp9⟩:=nmd (P1 i 9);have HPC:Hid (∀u Q,U.grownBy u (some r)->u.rowIs pb 63 (N*10) (pcF Q)->(∀t,t<10->Q i t=P1 i t)->u.cell? ⟨pb,i*10,none⟩=some (Iq p0)∧u.cell? ⟨pb,i*10+1,none⟩=some (Iq p1)∧u.cell? ⟨pb,i*10+2,none⟩=some (Iq p2)∧u.cell? ⟨pb,i*10+3,none⟩=some (Iq p3)∧u.cell? ⟨pb,i*10+4,none⟩=some (Iq p4)∧u.cell? ⟨pb,i*10+5,none⟩=some (Iq p5)∧u.cell? ⟨pb,i*10+6,none⟩=some (Iq p6)∧u.cell? ⟨pb,i*10+7,none⟩=some (Iq p7)∧u.cell? ⟨pb,i*10+8,none⟩=some (Iq p8)∧u.cell? ⟨pb,i*10+9,none⟩=some (Iq p9)):=fun u Q hg hr hq=>by
     refine⟨?_,?_,?_,?_,?_,?_,?_,?_,?_,?_⟩;·rw[<-hp0,<-hq 0 (by omega)];exact pc_cell (t:=0) hr hlt (by omega)
     ·rw[<-hp1,<-hq 1 (by omega)];exact pc_cell hr hlt (by omega)
     ·rw[<-hp2,<-hq 2 (by omega)];exact pc_cell hr hlt (by omega)
     ·rw[<-hp3,<-hq 3 (by omega)];exact pc_cell hr hlt (by omega)
     ·rw[<-hp4,<-hq 4 (by omega)];exact pc_cell hr hlt (by omega)
     ·rw[<-hp5,<-hq 5 (by omega)];exact pc_cell hr hlt (by omega)
     ·rw[<-hp6,<-hq 6 (by omega)];exact pc_cell hr hlt (by omega)
     ·rw[<-hp7,<-hq 7 (by omega)];exact pc_cell hr hlt (by omega)
     ·rw[<-hp8,<-hq 8 (by omega)];exact pc_cell hr hlt (by omega)
     ·rw[<-hp9,<-hq 9 (by omega)];exact pc_cell hr hlt (by omega)
    have HE:Hid (P i 0=p0∧P i 1=p1∧P i 2=p2∧P i 3=p3∧(0≤p8∧p8≤100000)∧0≤p9∧p9≤100000):=by
     refine⟨by rw[<-HPE i 0 (by omega)];exact hp0,by rw[<-HPE i 1 (by omega)];exact hp1,by rw[<-HPE i 2 (by omega)];exact hp2,by rw[<-HPE i 3 (by omega)];exact hp3,?_⟩;by_cases h4:kn=4
     ·obtain⟨r1,r2⟩:=HPK.1 h4;have hb3:=HBD.out;have hkid0:kdn ks 0<L.length:=by
       rcases hT.kidok i hiL with q|⟨_,_,q⟩|⟨q,_⟩;·rw[HKN.1]at q;omega
       ·have h1:0<m:=HKP h4;have:=HKI 0 h1;omega
       ·rw[HKN.1]at q;omega
      have hh3:=hS.hb (kdn ks 0) (P i 2) hkid0;unfold roomI at r1;omega
     ·obtain⟨r1,r2⟩:=HPK.2 h4;omega
    obtain⟨y0,y1,y2,y3,y4,y5,y6,y7,y8,y9⟩:=HPC wc P1 HP1c.g HP1c.row (fun _ _=>rfl);have KR1:Hid (∀u,(u=wc∨u=wc.drew)->Calls prog 53 #[Pq mb,ndA kd a0 a1 a2 a3 a4 a5 a6 a7 a8 a9 b0 b1 tx (.slice p m c) up,.agg #[Iq p0,Iq p1,Iq p2,Iq p3,Iq p4,Iq p5,Iq p6,Iq p7,Iq p8,Iq p9]] u fun e u'=>∃q cq,e=.returned (.slice q m cq)∧u'.heap[An]?=some (.cells #[Iq kd,Iq a0,Iq a1,Iq a2,Iq a3,Iq a4,Iq a5,Iq a6,Iq a7,Iq a8,Iq a9,Iq b0,Iq b1,.string tx,.slice p m c,Iq up] 61 (0,0))∧(u'.cell? ⟨pb,i*10,none⟩=some (Iq p0)∧u'.cell? ⟨pb,i*10+1,none⟩=some (Iq p1)∧u'.cell? ⟨pb,i*10+2,none⟩=some (Iq p2)∧u'.cell? ⟨pb,i*10+3,none⟩=some (Iq p3)∧u'.cell? ⟨pb,i*10+4,none⟩=some (Iq p4)∧u'.cell? ⟨pb,i*10+5,none⟩=some (Iq p5)∧u'.cell? ⟨pb,i*10+6,none⟩=some (Iq p6)∧u'.cell? ⟨pb,i*10+7,none⟩=some (Iq p7)∧u'.cell? ⟨pb,i*10+8,none⟩=some (Iq p8)∧u'.cell? ⟨pb,i*10+9,none⟩=some (Iq p9))∧Hid (KrOut wc u' r m H (20000*i+100+10000) (KrSpec kd a4 a5 a6 L ks Wd H p0 p1 p2 p3 p8 p9) (.returned (.slice q m cq)))∧Hid (Pw U u' r pb N P1 H (20000*i+10100))):=fun u hu=>by
     have hbu:Below wc.heap.size wc u:=by
      rcases hu with rfl|rfl;·exact Below.refl _ _
      ·exact(Below.refl _ _).drew
     obtain⟨f0,f1,f2,f3,f4,f5⟩:=HE.out;have hpu:=HP1c.below hbu;have:=KR u (20000*i+100) p8 p9 p4 p5 p6 p7 hpu.g hpu.m (by have:=HN1.out;omega) f4 f5;rw[f0,f1,f2,f3]at this;refine this.mono ?_;rintro e u' ⟨q,cq,R0,R1,R2,R3,rfl,s1,s2,s3,s4⟩;have hgw:wc.grownBy u' (some r):=(grown_of_below hbu).trans s3;have hal:=(Array.getElem?_eq_some_iff.1 HNc).1;have hpw:Pw U u' r pb N P1 H (20000*i+10100):=HP1c.grown hgw (s4.mono (by omega)) hpr;refine⟨q,cq,rfl,(hgw.block An hal (fun e=>hAr (by injection e))).trans HNc,HPC u' P1 hpw.g hpw.row (fun _ _=>rfl),⟨q,cq,R0,R1,R2,R3,rfl,s1,?_,hgw,s4⟩,hpw⟩;rcases s2 with e|⟨b,e,l,hr⟩;·exact .inl e
     ·exact .inr ⟨b,e,Nat.le_trans hbu.size l,hr⟩
    unfold ndA at KR1;clear KR SCR HAT HP1 HB1;go_wp2_with fail;go_region_held(fun W=>(W.cell? ⟨An,0,none⟩=some (Iq kd)∧W.cell? ⟨An,1,none⟩=some (Iq a0)∧W.cell? ⟨An,2,none⟩=some (Iq a1)∧W.cell? ⟨An,3,none⟩=some (Iq a2)∧W.cell? ⟨An,4,none⟩=some (Iq a3)∧W.cell? ⟨An,5,none⟩=some (Iq a4)∧W.cell? ⟨An,6,none⟩=some (Iq a5)∧W.cell? ⟨An,7,none⟩=some (Iq a6)∧W.cell? ⟨An,8,none⟩=some (Iq a7)∧W.cell? ⟨An,9,none⟩=some (Iq a8)∧W.cell? ⟨An,10,none⟩=some (Iq a9)∧W.cell? ⟨An,11,none⟩=some (Iq b0)∧W.cell? ⟨An,12,none⟩=some (Iq b1)∧W.cell? ⟨An,13,none⟩=some (.string tx)∧W.cell? ⟨An,14,none⟩=some (.slice p m c)∧W.cell? ⟨An,15,none⟩=some (Iq up))∧W.cell? ⟨pb,i*10,none⟩=some (Iq p0)∧W.cell? ⟨pb,i*10+1,none⟩=some (Iq p1)∧W.cell? ⟨pb,i*10+2,none⟩=some (Iq p2)∧W.cell? ⟨pb,i*10+3,none⟩=some (Iq p3)∧W.cell? ⟨pb,i*10+4,none⟩=some (Iq p4)∧W.cell? ⟨pb,i*10+5,none⟩=some (Iq p5)∧W.cell? ⟨pb,i*10+6,none⟩=some (Iq p6)∧W.cell? ⟨pb,i*10+7,none⟩=some (Iq p7)∧W.cell? ⟨pb,i*10+8,none⟩=some (Iq p8)∧W.cell? ⟨pb,i*10+9,none⟩=some (Iq p9)) (go_keep) (first|(go_at_call 53;refine Calls.mono (KR1 _ (by first|exact .inl rfl|exact .inr rfl)) ?_;rintro e u1 ⟨q,cq,rfl,hu1,⟨w0,w1,w2,w3,w4,w5,w6,w7,w8,w9⟩,HKO,HPu⟩;obtain⟨s0,s1,s2,s3,s4,s5,s6,s7,s8,s9,s10,s11,s12,s13,s14,s15⟩:=HNC u1 hu1;have HUN:Hid (u1.heap[An]?=some (.cells #[Iq kd,Iq a0,Iq a1,Iq a2,Iq a3,Iq a4,Iq a5,Iq a6,Iq a7,Iq a8,Iq a9,Iq b0,Iq b1,.string tx,.slice p m c,Iq up] 61 (0,0))):=hu1;clear hu1));all_goals go_wp2_with fail
    all_goals
     obtain⟨q',cq',R0,R1,R2,R3,hqe,hspec,hrow,hgw,_⟩:=HKO.out;injection hqe with hqe;injection hqe with hqe1 _ hqe3;subst hqe1;subst hqe3;have HSPEC:Hid (KrSpec kd a4 a5 a6 L ks Wd H p0 p1 p2 p3 p8 p9 R0 R1 R2 R3):=hspec;have HROW:Hid (m=0∨∃b,q=some ⟨b,0,none⟩∧b≠pb∧RcRow u1 b m R0 R1 R2 R3):=by
      rcases hrow with e|⟨b,e,l,hr⟩;·exact .inl e
      ·exact .inr ⟨b,e,by have:=HP1c.row.lt;omega,hr⟩
     clear hspec hrow hgw HKO KR1 s0 s1 s2 s3 s4 s5 s6 s7 s8 s9 s10 s11 s12 s13 s14 s15 w0 w1 w2 w3 w4 w5 w6 w7 w8 w9 z0 z1 z2 z3 z4 z5 z6 z7 z8 z9 z10 z11 z12 z13 z14 z15 y0 y1 y2 y3 y4 y5 y6 y7 y8 y9;go_loopw[57] (fun kv wr2=>∃j:Nat,j≤m∧kv=Iq (j:Int)∧Hid (Pw U wr2 r pb N (plK P1 i ks R0 R1 R2 R3 j) H (20000*i+10100))∧Hid (wr2.heap[An]?=some (.cells #[Iq kd,Iq a0,Iq a1,Iq a2,Iq a3,Iq a4,Iq a5,Iq a6,Iq a7,Iq a8,Iq a9,Iq b0,Iq b1,.string tx,.slice p m c,Iq up] 61 (0,0)))∧Hid (m=0∨∃b,q=some ⟨b,0,none⟩∧b≠pb∧RcRow wr2 b m R0 R1 R2 R3)) (fun kv _=>m-(intOf kv).toNat);case atStart=>exact⟨0,Nat.zero_le _,rfl,HPu,HUN,HROW⟩
     case round=>
      obtain⟨j,hj,rfl,HPj,HNj,HRj⟩:=hrel;clear HPu HUN HROW;by_cases hlj:j<m
      ·have hlj':(j:Int)<(m:Int):=by omega
       obtain⟨b,rfl,hbne,hbl,hbc⟩:=HRj.resolve_left (by omega);obtain⟨g0,g1,g2,g3⟩:=hbc j hlj;obtain⟨kb,ko,rfl,hkbl,hkbr,hkbc⟩:=HKB.resolve_left (by omega);obtain⟨cc,hcc⟩:=nmd (kdn ks j);have hci:=HKI j hlj;rw[hcc]at hci;obtain⟨x0,hx0⟩:=nmd (R0 j);obtain⟨x1,hx1⟩:=nmd (R1 j);obtain⟨x2,hx2⟩:=nmd (R2 j);obtain⟨x3,hx3⟩:=nmd (R3 j);rw[hx0]at g0;rw[hx1]at g1;rw[hx2]at g2;rw[hx3]at g3;obtain⟨k0,hk0⟩:=nmd (cap0 x0 x1 x2 x3 p4 p5 p6 p7);obtain⟨k1,hk1⟩:=nmd (cap1 x0 x1 x2 x3 p4 p5 p6 p7);obtain⟨k2,hk2⟩:=nmd (cap2 x0 x1 x2 x3 p4 p5 p6 p7);obtain⟨k3,hk3⟩:=nmd (cap3 x0 x1 x2 x3 p4 p5 p6 p7);have hik:i∉ks:=fun hmem=>by obtain⟨a,ha,e⟩:=List.mem_iff_getElem.1 hmem;have h1:=HKI a (by have:=HMK.out;omega);unfold kdn at h1;rw[List.getElem?_eq_getElem ha,e]at h1;have h2:i<i:=h1.1;omega
       have hPi:plK P1 i ks R0 R1 R2 R3 j i=P1 i:=plK_other j (fun t ht=>by have:=HMK.out;omega) i hik;obtain⟨W5,hW5⟩:=nmd (wr.alloc (.cells #[Iq x0,Iq x1,Iq x2,Iq x3] 56));obtain⟨Ar,hArr⟩:=nmd wr.heap.size;have HB5:Hid (Below wr.heap.size wr W5):=by rw[<-hW5];exact((Gr.refl wr).alloc _).below
       have hr5:W5.heap[Ar]?=some (.cells #[Iq x0,Iq x1,Iq x2,Iq x3] 56 (0,0)):=by rw[<-hW5,<-hArr];exact heap_alloc_new _ _
       have hAnl:An<wr.heap.size:=(Array.getElem?_eq_some_iff.1 HNj).1;have hplj:pb<wr.heap.size:=HPj.row.lt;have HP5:Hid (Pw U W5 r pb N (plK P1 i ks R0 R1 R2 R3 j) H (20000*i+10100)):=HPj.below HB5;have CAP:Hid (∀u,(u=W5∨u=W5.drew)->Calls prog 54 #[.agg #[Iq x0,Iq x1,Iq x2,Iq x3],.agg #[Iq p4,Iq p5,Iq p6,Iq p7]] u fun e u'=>e=.returned (.agg #[Iq k0,Iq k1,Iq k2,Iq k3])∧Hid (Below W5.heap.size W5 u')):=fun u hu=>by
        have hbu:Below W5.heap.size W5 u:=by
         rcases hu with rfl|rfl;·exact Below.refl _ _
         ·exact(Below.refl _ _).drew
        have:=cap_any x0 x1 x2 x3 p4 p5 p6 p7 u;rw[cap_parts,hk0,hk1,hk2,hk3]at this;exact this.mono fun e u' ⟨h1,h2⟩=>⟨h1,hbu.trans (h2.below.mono hbu.size)⟩
       have HSU:Hid (∀u,Below W5.heap.size W5 u->u.cell? ⟨An,14,none⟩=some (.slice (some ⟨kb,ko,none⟩) m c)∧u.cell? ⟨kb,ko+j,none⟩=some (Iq (cc:Int))∧u.cell? ⟨Ar,0,none⟩=some (Iq x0)∧u.cell? ⟨Ar,1,none⟩=some (Iq x1)∧u.cell? ⟨Ar,2,none⟩=some (Iq x2)∧u.cell? ⟨Ar,3,none⟩=some (Iq x3)∧u.cell? ⟨pb,i*10+4,none⟩=some (Iq p4)∧u.cell? ⟨pb,i*10+5,none⟩=some (Iq p5)∧u.cell? ⟨pb,i*10+6,none⟩=some (Iq p6)∧u.cell? ⟨pb,i*10+7,none⟩=some (Iq p7)):=fun u hu=>by
        have hbw:=HB5.trans (hu.mono HB5.size);have hpu:=HP5.below hu;have hn:=(hbw.block An hAnl).trans HNj;have hr:=(hu.block Ar (Array.getElem?_eq_some_iff.1 hr5).1).trans hr5;have hkc:u.cell? ⟨kb,ko+j,none⟩=some (Iq (cc:Int)):=by rw[<-hcc];exact(World.cell?_of_block (a:=⟨kb,ko+j,none⟩) (hpu.g.block kb hkbl (fun e=>hkbr (by injection e)))).trans (hkbc j hlj)
        have hpc:=HPC u _ hpu.g hpu.row (fun t _=>by rw[hPi]);obtain⟨_,_,_,_,c4,c5,c6,c7,_,_⟩:=hpc;refine⟨?_,hkc,?_,?_,?_,?_,c4,c5,c6,c7⟩;·rw[Lib.cell_of_heap hn];rfl
        ·rw[Lib.cell_of_heap hr];rfl
        ·rw[Lib.cell_of_heap hr];rfl
        ·rw[Lib.cell_of_heap hr];rfl
        ·rw[Lib.cell_of_heap hr];rfl
       have HSS:Hid (∀u,Below W5.heap.size W5 u->(tw u pb (cc*10) x0 x1 x2 x3 k0 k1 k2 k3 0 0).cell? ⟨An,14,none⟩=some (.slice (some ⟨kb,ko,none⟩) m c)∧(tw u pb (cc*10) x0 x1 x2 x3 k0 k1 k2 k3 0 0).cell? ⟨kb,ko+j,none⟩=some (Iq (cc:Int))∧(tw u pb (cc*10) x0 x1 x2 x3 k0 k1 k2 k3 0 0).cell? ⟨Ar,0,none⟩=some (Iq x0)∧(tw u pb (cc*10) x0 x1 x2 x3 k0 k1 k2 k3 0 0).cell? ⟨Ar,1,none⟩=some (Iq x1)∧(tw u pb (cc*10) x0 x1 x2 x3 k0 k1 k2 k3 0 0).cell? ⟨Ar,2,none⟩=some (Iq x2)∧(tw u pb (cc*10) x0 x1 x2 x3 k0 k1 k2 k3 0 0).cell? ⟨Ar,3,none⟩=some (Iq x3)∧(tw u pb (cc*10) x0 x1 x2 x3 k0 k1 k2 k3 0 0).cell? ⟨pb,i*10+4,none⟩=some (Iq p4)∧(tw u pb (cc*10) x0 x1 x2 x3 k0 k1 k2 k3 0 0).cell? ⟨pb,i*10+5,none⟩=some (Iq p5)∧(tw u pb (cc*10) x0 x1 x2 x3 k0 k1 k2 k3 0 0).cell? ⟨pb,i*10+6,none⟩=some (Iq p6)∧(tw u pb (cc*10) x0 x1 x2 x3 k0 k1 k2 k3 0 0).cell? ⟨pb,i*10+7,none⟩=some (Iq p7)):=fun u hu=>by
        obtain⟨r0,r1,r2,r3,r4,r5,r6,r7,r8,r9⟩:=HSU u hu;have o1:∀b' o' v,b'≠pb->u.cell? ⟨b',o',none⟩=some v->(tw u pb (cc*10) x0 x1 x2 x3 k0 k1 k2 k3 0 0).cell? ⟨b',o',none⟩=some v:=fun b' o' v hb' hv=>(tw_cell b' o' (.inl hb')).trans hv;have o2:∀t v,t<10->u.cell? ⟨pb,i*10+t,none⟩=some v->(tw u pb (cc*10) x0 x1 x2 x3 k0 k1 k2 k3 0 0).cell? ⟨pb,i*10+t,none⟩=some v:=fun t v ht hv=>(tw_cell pb (i*10+t) (by omega)).trans hv;have n1:An≠pb:=by omega
        have n2:kb≠pb:=by omega
        have n3:Ar≠pb:=by omega
        exact⟨o1 _ _ _ n1 r0,o1 _ _ _ n2 r1,o1 _ _ _ n3 r2,o1 _ _ _ n3 r3,o1 _ _ _ n3 r4,o1 _ _ _ n3 r5,o2 4 _ (by omega) r6,o2 5 _ (by omega) r7,o2 6 _ (by omega) r8,o2 7 _ (by omega) r9⟩
       have HCC:Hid (∀u,Below W5.heap.size W5 u->(∀o',u.frozen? ⟨pb,o',none⟩=false)∧pb<u.heap.size∧(∃v,u.cell? ⟨pb,cc*10,none⟩=some v)∧(∃v,u.cell? ⟨pb,cc*10+1,none⟩=some v)∧(∃v,u.cell? ⟨pb,cc*10+2,none⟩=some v)∧(∃v,u.cell? ⟨pb,cc*10+3,none⟩=some v)∧(∃v,u.cell? ⟨pb,cc*10+4,none⟩=some v)∧(∃v,u.cell? ⟨pb,cc*10+5,none⟩=some v)∧(∃v,u.cell? ⟨pb,cc*10+6,none⟩=some v)∧(∃v,u.cell? ⟨pb,cc*10+7,none⟩=some v)∧(∃v,u.cell? ⟨pb,cc*10+8,none⟩=some v)∧(∃v,u.cell? ⟨pb,cc*10+9,none⟩=some v)):=fun u hu=>by have hpu:=HP5.below hu;exact⟨fun o'=>hpu.row.frozen o',hpu.row.lt,⟨_,pc_cell (t:=0) hpu.row hci.2 (by omega)⟩,⟨_,pc_cell hpu.row hci.2 (by omega)⟩,⟨_,pc_cell hpu.row hci.2 (by omega)⟩,⟨_,pc_cell hpu.row hci.2 (by omega)⟩,⟨_,pc_cell hpu.row hci.2 (by omega)⟩,⟨_,pc_cell hpu.row hci.2 (by omega)⟩,⟨_,pc_cell hpu.row hci.2 (by omega)⟩,⟨_,pc_cell hpu.row hci.2 (by omega)⟩,⟨_,pc_cell hpu.row hci.2 (by omega)⟩,⟨_,pc_cell hpu.row hci.2 (by omega)⟩⟩
       have HFIN:Hid (∀u,Below W5.heap.size W5 u->Pw U (tw u pb (cc*10) x0 x1 x2 x3 k0 k1 k2 k3 0 0) r pb N (plK P1 i ks R0 R1 R2 R3 (j+1)) H (20000*i+10100)∧(tw u pb (cc*10) x0 x1 x2 x3 k0 k1 k2 k3 0 0).heap[An]?=some (.cells #[Iq kd,Iq a0,Iq a1,Iq a2,Iq a3,Iq a4,Iq a5,Iq a6,Iq a7,Iq a8,Iq a9,Iq b0,Iq b1,.string tx,.slice (some ⟨kb,ko,none⟩) m c,Iq up] 61 (0,0))∧(m=0∨∃b',some (⟨b,0,none⟩:Addr)=some ⟨b',0,none⟩∧b'≠pb∧RcRow (tw u pb (cc*10) x0 x1 x2 x3 k0 k1 k2 k3 0 0) b' m R0 R1 R2 R3)):=fun u hu=>by
        have hbw:=HB5.trans (hu.mono HB5.size);have key:∀b',b'≠pb->(tw u pb (cc*10) x0 x1 x2 x3 k0 k1 k2 k3 0 0).heap[b']?=u.heap[b']?:=fun b' hb'=>tw_heap b' hb';refine⟨?_,(key An (by omega)).trans ((hbw.block An hAnl).trans HNj),.inr ⟨b,rfl,hbne,?_,fun t ht=>?_⟩⟩;·have:=pw_put (HP5.below hu) hpU hpr cc (plV P1 i (R0 j) (R1 j) (R2 j) (R3 j)) x0 x1 x2 x3 k0 k1 k2 k3 0 0 hx0.symm hx1.symm hx2.symm hx3.symm (by rw[<-hk0,<-hx0,<-hx1,<-hx2,<-hx3,<-hp4,<-hp5,<-hp6,<-hp7];rfl) (by rw[<-hk1,<-hx0,<-hx1,<-hx2,<-hx3,<-hp4,<-hp5,<-hp6,<-hp7];rfl) (by rw[<-hk2,<-hx0,<-hx1,<-hx2,<-hx3,<-hp4,<-hp5,<-hp6,<-hp7];rfl) (by rw[<-hk3,<-hx0,<-hx1,<-hx2,<-hx3,<-hp4,<-hp5,<-hp6,<-hp7];rfl) rfl rfl;rw[<-hcc]at this⊢;exact this
        ·have h1:=(Array.getElem?_eq_some_iff.1 (((key b hbne).trans (hbw.block b hbl)).trans (Array.getElem?_eq_getElem hbl))).1;exact h1
        ·obtain⟨r0,r1,r2,r3⟩:=hbc t ht;have kk:=(key b hbne).trans (hbw.block b hbl);exact⟨(World.cell?_of_block (a:=⟨b,_,none⟩) kk).trans r0,(World.cell?_of_block (a:=⟨b,_,none⟩) kk).trans r1,(World.cell?_of_block (a:=⟨b,_,none⟩) kk).trans r2,(World.cell?_of_block (a:=⟨b,_,none⟩) kk).trans r3⟩
       obtain⟨t0,t1,t2,t3,t4,t5,t6,t7,t8,t9⟩:=HSU W5 (Below.refl _ _);have HAN:Hid (wr.cell? ⟨An,14,none⟩=some (.slice (some ⟨kb,ko,none⟩) m c)):=by show _=_;rw[Lib.cell_of_heap HNj.out];rfl
       have hccI:(cc:Int)<(N:Int):=by omega
       clear hr5 hbc hk0 hk1 hk2 hk3 hx0 hx1 hx2 hx3 hcc hPi hik hbl HRj HNj HPj hkbl hkbr hkbc;go_wp2_with fail;clear hW5 hArr g0 g1 g2 g3;go_region_held(fun W=>W.cell? ⟨An,14,none⟩=some (.slice (some ⟨kb,ko,none⟩) m c)∧W.cell? ⟨kb,ko+j,none⟩=some (Iq (cc:Int))∧W.cell? ⟨Ar,0,none⟩=some (Iq x0)∧W.cell? ⟨Ar,1,none⟩=some (Iq x1)∧W.cell? ⟨Ar,2,none⟩=some (Iq x2)∧W.cell? ⟨Ar,3,none⟩=some (Iq x3)∧W.cell? ⟨pb,i*10+4,none⟩=some (Iq p4)∧W.cell? ⟨pb,i*10+5,none⟩=some (Iq p5)∧W.cell? ⟨pb,i*10+6,none⟩=some (Iq p6)∧W.cell? ⟨pb,i*10+7,none⟩=some (Iq p7)) (go_keep) (first|(go_at_call 54;refine Calls.mono (CAP _ (by first|exact .inl rfl|exact .inr rfl)) ?_;rintro e u2 ⟨rfl,HBu⟩;obtain⟨f0,f1,f2,f3,f4,f5,f6,f7,f8,f9⟩:=HSU u2 HBu;have HX:=HSS u2 HBu;unfold tw at HX;obtain⟨h0,h1,h2,h3,h4,h5,h6,h7,h8,h9⟩:=HX;obtain⟨hfz,hplu,⟨v0,e0⟩,⟨v1,e1⟩,⟨v2,e2⟩,⟨v3,e3⟩,⟨v4,e4⟩,⟨v5,e5⟩,⟨v6,e6⟩,⟨v7,e7⟩,⟨v8,e8⟩,⟨v9,e9⟩⟩:=HCC u2 HBu));all_goals
        obtain⟨F1,F2,F3⟩:=HFIN u2 HBu;have HF1:=(show Hid _ from F1);have HF2:=(show Hid _ from F2);have HF3:=(show Hid _ from F3);clear F1 F2 F3;go_wp2;go_roundw;case rel=>exact⟨j+1,hlj,by go_num,HF1,HF2,HF3⟩
        case measure=>simp[intOf];omega
      ·have hlj':¬(j:Int)<(m:Int):=by omega
       obtain rfl:j=m:=by omega
       have HNEXT:Hid (PlTo L Wd H w h idf off sn (plK P1 i ks R0 R1 R2 R3 j) (i+1)):=by have hs2:=HSPEC.out;rw[<-hp0,<-hp1,<-hp2,<-hp3,<-hp8,<-hp9]at hs2;have:=HSTEP P1 R0 R1 R2 R3 HPE (fun e=>HPK.1 (by have:=HKN.out;omega)) (fun e=>HPK.2 (by have:=HKN.out;omega)) hs2;exact this
       have HPN:Hid (Pw U wr r pb N (plK P1 i ks R0 R1 R2 R3 j) H (20000*(i+1))):=HPj.mono (by omega);clear HPj HNj HRj;go_wp2;go_roundw;case rel=>exact⟨i+1,_,hlt,by go_num,HPN,HNEXT⟩
       case measure=>simp[intOf];omega
  ·have hlt':¬(i:Int)<(N:Int):=by omega
   obtain rfl:i=N:=by omega
   have HGO:Hid (U.grownBy wr (some r)∧wr.rowIs pb 63 (i*10) (pcF P)∧PlTo L Wd H w h idf off sn P i):=⟨HP.g,HP.row,HL⟩;go_wp2;go_ret;exact⟨pb,P,rfl,HGO.2.1,HGO.2.2,HGO.1,hpU⟩
end
section
section
variable{s:ByteArray} {L:List Nd} {Wd:Nat->Int} {H:Nat->Int->Int} {w h:Int} {idf off:Nat->Int} {sn:Nat} {P:Nat->Nat->Int}
theorem PlTo.scroll(hT:Tree s L)(hp:PlTo L Wd H w h idf off sn P L.length){i:Nat}(hi:i<L.length)(h4:(nth L i).kind=4):
 (nth L i).kids.length=1∧0≤P i 8∧P i 8≤P i 9∧P (kdn (nth L i).kids 0) 0=P i 0∧P (kdn (nth L i).kids 0) 1=P i 1-P i 8∧P (kdn (nth L i).kids 0) 2=P i 2∧P (kdn (nth L i).kids 0) 3=P i 3+P i 9∧(atN (nth L i) 0=0->P i 8=0):=by
 have hk1:(nth L i).kids.length=1:=by
  rcases hT.kidok i hi with q|⟨_,_,q⟩|⟨q,_⟩;·omega
  ·exact q
  ·omega
 obtain⟨r1,r2⟩:=hp.sc i hi hi h4;obtain⟨R0,R1,R2,R3,hs,hk⟩:=hp.kr i hi hi;obtain⟨e0,e1,e2,e3⟩:=hs.scr (by omega) 0 (by omega);have k0:=hk 0 (by omega) 0 (by omega);have k1:=hk 0 (by omega) 1 (by omega);have k2:=hk 0 (by omega) 2 (by omega);have k3:=hk 0 (by omega) 3 (by omega);have k0:P (kdn (nth L i).kids 0) 0=R0 0:=k0;have k1:P (kdn (nth L i).kids 0) 1=R1 0:=k1;have k2:P (kdn (nth L i).kids 0) 2=R2 0:=k2;have k3:P (kdn (nth L i).kids 0) 3=R3 0:=k3;have hr0:0≤P i 9:=by rw[r1];unfold roomI;omega
 refine⟨hk1,by omega,by omega,by omega,by omega,by omega,by omega,fun h0=>?_⟩;have:offI (atN (nth L i) 0) idf off sn=0:=by unfold offI;rw[if_pos h0]
 omega
theorem cl_id{x:Int}(h0:0≤x)(h1:x≤100000):cl x=x:=by unfold cl;rw[if_neg (by omega),if_neg (by omega)]
theorem PlTo.inRow(hT:Tree s L)(hp:PlTo L Wd H w h idf off sn P L.length){i:Nat}(hi:i<L.length)(h0:(nth L i).kind=0):
 ∃G,((nth L i).kids=[]∨KidSpl L (nth L i).kids (fun j=>Wd (kdn (nth L i).kids j)) (P i 2) (atN (nth L i) 4) G)∧(∀j,j<(nth L i).kids.length->0≤G j∧G j≤100000)∧∀j,j<(nth L i).kids.length->P (kdn (nth L i).kids j) 0=P i 0+offs G (atN (nth L i) 4) j∧P (kdn (nth L i).kids j) 1=P i 1∧P (kdn (nth L i).kids j) 2=G j∧P (kdn (nth L i).kids j) 3=P i 3:=by obtain⟨R0,R1,R2,R3,hs,hk⟩:=hp.kr i hi hi;obtain⟨G,g1,g2,g3⟩:=hs.row (by omega);have hb:=(hT.vl.nv i hi).bd.2.1;rw[cl_id hb.1 (by omega)]at g3;refine⟨G,g1,g2,fun j hj=>?_⟩;obtain⟨e0,e1,e2,e3⟩:=g3 j hj;have k0:P (kdn (nth L i).kids j) 0=R0 j:=hk j hj 0 (by omega);have k1:P (kdn (nth L i).kids j) 1=R1 j:=hk j hj 1 (by omega);have k2:P (kdn (nth L i).kids j) 2=R2 j:=hk j hj 2 (by omega);have k3:P (kdn (nth L i).kids j) 3=R3 j:=hk j hj 3 (by omega);rw[k0,k1,k2,k3];exact⟨e0,e1,e2,e3⟩
theorem sumL_one{f:Nat->Int}{l:List Nat}(hf:∀j∈l,0≤f j){k:Nat}(hk:k∈l):f k≤sumL f l:=by
 induction l with
 |nil=>cases hk
 |cons a l ih=>
  have h0:0≤f a:=hf a (by simp);have h1:0≤sumL f l:=sumL_nonneg fun j hj=>hf j (by simp[hj]);have e:sumL f (a::l)=f a+sumL f l:=rfl;rcases List.mem_cons.1 hk with rfl|hk;·omega
  ·have:=ih (fun j hj=>hf j (by simp[hj])) hk;omega
theorem tiles_key{r S1 S2 S:Int}(h1:r≤S1∨r≤S2->S=r)(h2:S1<r->S2<r->S=S2):S≤r:=by
 by_cases a:r≤S1;·exact Int.le_of_eq (h1 (.inl a))
 ·by_cases b:r≤S2;·exact Int.le_of_eq (h1 (.inr b))
  ·have:=h2 (by omega) (by omega);omega
theorem KidSpl.tiles{L:List Nd}{ks:List Nat}{N:Nat->Int}{room gap:Int}{G:Nat->Int}(g1:KidSpl L ks N room gap G)(hk:0<ks.length):
 sumL G (List.range ks.length)≤rm room gap ks.length∧((∃j,j<ks.length∧0<atN (nth L (kdn ks j)) 3∧atN (nth L (kdn ks j)) 2<0)->sumL G (List.range ks.length)=rm room gap ks.length):=by
 have hr:=rm_le room gap ks.length hk;obtain⟨t1,t2,t3⟩:=SplitIs.tiles g1 (held_bds _ _ _);refine⟨tiles_key t2 t3,fun⟨j,hj,q1,q2⟩=>t2 (.inr (Int.le_trans hr ?_))⟩;have hcl:0<cl (atN (nth L (kdn ks j)) 3):=by unfold cl;split;omega;split<;>omega
 have hm:hMax (wMn (nth L (kdn ks j)) (N j)) (atN (nth L (kdn ks j)) 2)=100000:=by unfold hMax;rw[if_pos q2]
 refine Int.le_trans ?_ (sumL_one (k:=j) (fun x _=>?_) (List.mem_range.2 hj));·show(100000:Int)≤if 0<cl (atN (nth L (kdn ks j)) 3)then hMax (wMn (nth L (kdn ks j)) (N j)) (atN (nth L (kdn ks j)) 2)else cl (wMn (nth L (kdn ks j)) (N j));rw[if_pos hcl,hm];exact Int.le_refl _
 ·have a1:=hMax_bd (wMn (nth L (kdn ks x)) (N x)) (atN (nth L (kdn ks x)) 2);have a2:=cl_bd (wMn (nth L (kdn ks x)) (N x));show(0:Int)≤if 0<cl (atN (nth L (kdn ks x)) 3)then hMax (wMn (nth L (kdn ks x)) (N x)) (atN (nth L (kdn ks x)) 2)else cl (wMn (nth L (kdn ks x)) (N x));split<;>omega
theorem PlTo.tiles(hT:Tree s L)(hp:PlTo L Wd H w h idf off sn P L.length){i:Nat}(hi:i<L.length)(h0:(nth L i).kind=0)(hk:0<(nth L i).kids.length):
 ∃G,(∀j,j<(nth L i).kids.length->0≤G j∧G j≤100000)∧(∀j,j<(nth L i).kids.length->P (kdn (nth L i).kids j) 2=G j)∧sumL G (List.range (nth L i).kids.length)≤rm (P i 2) (atN (nth L i) 4) (nth L i).kids.length∧((∃j,j<(nth L i).kids.length∧0<atN (nth L (kdn (nth L i).kids j)) 3∧atN (nth L (kdn (nth L i).kids j)) 2<0)->sumL G (List.range (nth L i).kids.length)=rm (P i 2) (atN (nth L i) 4) (nth L i).kids.length):=by obtain⟨G,g1,g2,g3⟩:=hp.inRow hT hi h0;have g1:=g1.resolve_left (fun e=>by rw[e]at hk;cases hk);exact⟨G,g2,fun j hj=>(g3 j hj).2.2.1,g1.tiles hk⟩
def OnScr(P:Nat->Nat->Int)(w h:Int)(i:Nat):Prop:=0≤P i 4∧0≤P i 5∧0≤P i 6∧0≤P i 7∧P i 4+P i 6≤w∧P i 5+P i 7≤h
def InsB(x y a b X Y A B:Int):Prop:=a≤0∨b≤0∨(X≤x∧Y≤y∧x+a≤X+A∧y+b≤Y+B)
theorem cap_ins{x y a b cx cy cw ch w h:Int}(hw:1≤w∧w≤400)(hh:1≤h∧h≤400)(ha:0≤a∧a≤100000)(hb:0≤b∧b≤100000)(hc:0≤cx∧0≤cy∧0≤cw∧0≤ch∧cx+cw≤w∧cy+ch≤h):
 let c0:=cap0 x y a b cx cy cw ch
 let c1:=cap1 x y a b cx cy cw ch
 let c2:=cap2 x y a b cx cy cw ch
 let c3:=cap3 x y a b cx cy cw ch
 (0≤c0∧0≤c1∧0≤c2∧0≤c3∧c0+c2≤w∧c1+c3≤h)∧InsB c0 c1 c2 c3 x y a b∧InsB c0 c1 c2 c3 cx cy cw ch:=by
 dsimp only;unfold cap0 cap1 cap2 cap3 InsB;by_cases q:capL x a cx cw≥capR x a cx cw∨capL y b cy ch≥capR y b cy ch;·rw[if_pos q,if_pos q,if_pos q,if_pos q];omega
 ·rw[if_neg q,if_neg q,if_neg q,if_neg q];unfold capL capR posI lenI at*;omega
theorem PlTo.onScr(hT:Tree s L)(hp:PlTo L Wd H w h idf off sn P L.length)(hw:1≤w∧w≤400)(hh:1≤h∧h≤400):∀n i,i<n->i<L.length->OnScr P w h i
 |0,i,h,_=>by omega
 |n+1,i,hn,hi=>by
  by_cases e:i=0;·subst e;obtain⟨r0,r1,r2,r3,r4,r5,r6,r7⟩:=hp.root;unfold OnScr;omega
  ·obtain⟨u,k,hu,hk,hc,hup⟩:=hT.kid_of i (by omega) hi;have hu2:=PlTo.onScr hT hp hw hh n u (by omega) (by omega);obtain⟨R0,R1,R2,R3,hs,hkk⟩:=hp.kr u (by omega) (by omega);have hbi:=hp.bd i hi;rw[<-hc]at hbi⊢;have k2:P (kdn (nth L u).kids k) 2=R2 k:=hkk k hk 2 (by omega);have k3:P (kdn (nth L u).kids k) 3=R3 k:=hkk k hk 3 (by omega);have k4:P (kdn (nth L u).kids k) 4=cap0 (R0 k) (R1 k) (R2 k) (R3 k) (P u 4) (P u 5) (P u 6) (P u 7):=hkk k hk 4 (by omega);have k5:P (kdn (nth L u).kids k) 5=cap1 (R0 k) (R1 k) (R2 k) (R3 k) (P u 4) (P u 5) (P u 6) (P u 7):=hkk k hk 5 (by omega);have k6:P (kdn (nth L u).kids k) 6=cap2 (R0 k) (R1 k) (R2 k) (R3 k) (P u 4) (P u 5) (P u 6) (P u 7):=hkk k hk 6 (by omega);have k7:P (kdn (nth L u).kids k) 7=cap3 (R0 k) (R1 k) (R2 k) (R3 k) (P u 4) (P u 5) (P u 6) (P u 7):=hkk k hk 7 (by omega);unfold OnScr;rw[k4,k5,k6,k7];exact(cap_ins hw hh (by omega) (by omega) hu2).1
theorem PlTo.clip(hT:Tree s L)(hp:PlTo L Wd H w h idf off sn P L.length)(hw:1≤w∧w≤400)(hh:1≤h∧h≤400){i:Nat}(hi:i<L.length)(h0:0<i):
 ∃u:Nat,u<i∧(nth L i).up=(u:Int)∧InsB (P i 4) (P i 5) (P i 6) (P i 7) (P i 0) (P i 1) (P i 2) (P i 3)∧InsB (P i 4) (P i 5) (P i 6) (P i 7) (P u 4) (P u 5) (P u 6) (P u 7):=by obtain⟨u,k,hu,hk,hc,hup⟩:=hT.kid_of i h0 hi;have hu2:=PlTo.onScr hT hp hw hh (u+1) u (by omega) (by omega);obtain⟨R0,R1,R2,R3,hs,hkk⟩:=hp.kr u (by omega) (by omega);have hbi:=hp.bd i hi;refine⟨u,hu,hup,?_⟩;rw[<-hc]at hbi⊢;have k0:P (kdn (nth L u).kids k) 0=R0 k:=hkk k hk 0 (by omega);have k1:P (kdn (nth L u).kids k) 1=R1 k:=hkk k hk 1 (by omega);have k2:P (kdn (nth L u).kids k) 2=R2 k:=hkk k hk 2 (by omega);have k3:P (kdn (nth L u).kids k) 3=R3 k:=hkk k hk 3 (by omega);have k4:P (kdn (nth L u).kids k) 4=cap0 (R0 k) (R1 k) (R2 k) (R3 k) (P u 4) (P u 5) (P u 6) (P u 7):=hkk k hk 4 (by omega);have k5:P (kdn (nth L u).kids k) 5=cap1 (R0 k) (R1 k) (R2 k) (R3 k) (P u 4) (P u 5) (P u 6) (P u 7):=hkk k hk 5 (by omega);have k6:P (kdn (nth L u).kids k) 6=cap2 (R0 k) (R1 k) (R2 k) (R3 k) (P u 4) (P u 5) (P u 6) (P u 7):=hkk k hk 6 (by omega);have k7:P (kdn (nth L u).kids k) 7=cap3 (R0 k) (R1 k) (R2 k) (R3 k) (P u 4) (P u 5) (P u 6) (P u 7):=hkk k hk 7 (by omega);rw[k4,k5,k6,k7,k0,k1,k2,k3];exact(cap_ins hw hh (by omega) (by omega) hu2).2
end
end
section
open Go.RowKit Go.Proofs.Tryz
def oCells(a b:Nat->Int):Nat->List Value
 |0=>[]
 |k+1=>oCells a b k++[Iq (a k),Iq (b k)]
theorem oCells_len(a b:Nat->Int):∀k,(oCells a b k).length=k*2
 |0=>rfl
 |k+1=>by rw[oCells,List.length_append,oCells_len a b k];simp;omega
theorem oCells_at(a b:Nat->Int):∀k j,j<k->(oCells a b k)[j*2]?=some (Iq (a j))∧(oCells a b k)[j*2+1]?=some (Iq (b j))
 |0,j,h=>by omega
 |k+1,j,h=>by
  have hl:=oCells_len a b k;by_cases e:j<k;·have:=oCells_at a b k j e;simp only[oCells];rw[List.getElem?_append_left (by omega),List.getElem?_append_left (by omega)];exact this
  ·obtain rfl:j=k:=by omega
   simp only[oCells];rw[List.getElem?_append_right (by omega),List.getElem?_append_right (by omega),hl,Nat.sub_self,show j*2+1-j*2=1 by omega];exact⟨rfl,rfl⟩
theorem cell_two_new(w:World)(x y:Value)(t:TypeId):∀j u,[x,y][j]?=some u->(w.alloc (.cells #[x,y] t)).cell? ((⟨w.heap.size,0,none⟩:Addr).add j)=some u:=by
 intro j u h;have e:(⟨w.heap.size,0,none⟩:Addr).add j=⟨w.heap.size,0+j,none⟩:=by unfold Addr.add;split<;>simp_all
 rw[e,Nat.zero_add,World.cell?_alloc_at _ _ _ _ rfl];rw[<-h];match j with
 |0=>rfl
 |1=>rfl
 |_+2=>rfl
theorem infoScroll:(prog.info? 68).map (fun i=>(i.zero,i.size,i.bytes))=some (some (.agg #[Iq 0,Iq 0]),2,16):=by kernel_rfl
def ScrO(w w':World)(n:Nat)(idf off:Nat->Int)(e:Ending):Prop:=∃p c,e=.returned (.slice p n c)∧Scr w' p n idf off∧(∀a:Addr,p=some a->w.heap.size≤a.block∧a.block<w'.heap.size)∧Below w.heap.size w w'
theorem scrolls_any(p:Option Addr)(n cap:Nat)(idf off:Nat->Int)(w:World)(h:Scr w p n idf off)(hn:n≤8796093022208):
 Calls prog 7 #[.slice p n cap] w fun e w'=>ScrO w w' n idf off e:=by
 obtain⟨i0,hi,hz0,hz1,hz2⟩:=info_parts infoScroll;have HW:Hid (Scr w p n idf off):=h;clear h;go_enter func7,ntmps7;go_wp2;go_loopw[3,4] (fun v i wr=>∃k:Nat,i=Iq k∧k≤n∧wr.ownsRow w.heap.size 68 2 v k (oCells idf off k)∧Below w.heap.size w wr) (fun _ i _=>n-(intOf i).toNat);case atStart=>exact⟨0,rfl,Nat.zero_le _,World.ownsRow_nil _ _ _ _,Below.refl _ _⟩
 case round=>
  obtain⟨k,rfl,hk,hown,hbw⟩:=hrel;by_cases hlt:k<n
  ·have hlt':(k:Int)<(n:Int):=by omega
   have hw1:=HW.below hbw;obtain⟨blk,o,rfl,hz,hcs⟩:=hw1.resolve_left (by omega);obtain⟨c0,c1⟩:=hcs k hlt;obtain⟨a1,ha1⟩:=nmd (idf k);obtain⟨a2,ha2⟩:=nmd (off k);rw[ha1]at c0;rw[ha2]at c1;have hzr:=hbw.size;have HS:Hid (oCells idf off (k+1)=oCells idf off k++[Iq a1,Iq a2]):=by show _=_;rw[oCells,ha1,ha2]
   clear hw1 ha1 ha2 hcs;go_wp2_with fail;go_region_law(refine step_append_own rfl (.tmp 11) (.tmp 23) 28 rfl w.heap.size 68 i0 (.agg #[Iq 0,Iq 0]) 2 16 underlying28 hi hz0 hz1 hz2 rfl (by decide) u3 k (oCells idf off k) (by simp[Act.eval]) (World.ownsRow.alloc (w:=wr.drew) hown _) _ 1 1 [Iq a1,Iq a2] (by simp[Act.eval]) rfl (cell_two_new _ _ _ _) (by intro u hu;simp at hu;rcases hu with rfl|rfl<;>rfl) (by unfold maxLen;omega) (by omega) (by simp;omega) ?_;intro v' w1 hown' hg);all_goals
    have hb1:Below w.heap.size w w1:=((hbw.trans (below_drewN (Below.refl _ _) 1)).alloc (by simp;omega) _).grown hg (by simp;omega) (fun q hq=>(hown.lt q hq).1);clear hg hown hbw;go_wp2;go_roundw;case rel=>exact⟨k+1,by go_num,by omega,by rw[HS.out];exact hown',hb1⟩
    case measure=>simp[intOf];omega
  ·have hge:¬(k:Int)<(n:Int):=by omega
   obtain rfl:n=k:=by omega
   have HV:Hid (∃p c,u3=.slice p n c∧Scr wr p n idf off∧∀a:Addr,p=some a->w.heap.size≤a.block∧a.block<wr.heap.size):=by
    have h0:=hown;rcases hown.2 with⟨rfl,rfl⟩|⟨g,cap',cur,rfl,hb,hg,h1,h2,_⟩;·exact⟨none,0,rfl,.inl rfl,fun a e=>by cases e⟩
    ·have hgl:=(Array.getElem?_eq_some_iff.1 hg).1;refine⟨some ⟨g,0,none⟩,cap',rfl,.inr ⟨g,0,rfl,hgl,fun j hj=>?_⟩,fun a e=>by cases e;exact⟨hb,hgl⟩⟩;have:=oCells_at idf off n j hj;have hl:=oCells_len idf off n;rw[h0.cellAt _ (by omega),h0.cellAt _ (by omega),Nat.zero_add];exact this
   obtain⟨p',c',rfl,hv1,hv2⟩:=HV.out;have HVV:Hid (Scr wr p' n idf off∧∀a:Addr,p'=some a->w.heap.size≤a.block∧a.block<wr.heap.size):=⟨hv1,hv2⟩;clear hown HV hv1 hv2;go_wp2;go_ret;exact⟨p',c',rfl,HVV.1,HVV.2,hbw⟩
end
end Go.Proofs.YtmbefonnkkhfgaaGreatDoor
