import Derived.Test.YtnponhbgicbkcaaGreatDoorL45
import Derived.Test.YtnponhbgicbkcaaGreatDoorL42
set_option linter.unusedVariables false
set_option maxRecDepth 100000
set_option maxHeartbeats 16000000
namespace Go.Proofs.YtnponhbgicbkcaaGreatDoor
section
def cap0(ax ay aw ah bx by_ bw bh:Int):Int:=if capL ax aw bx bw≥capR ax aw bx bw∨capL ay ah by_ bh≥capR ay ah by_ bh then 0 else capL ax aw bx bw
def cap1(ax ay aw ah bx by_ bw bh:Int):Int:=if capL ax aw bx bw≥capR ax aw bx bw∨capL ay ah by_ bh≥capR ay ah by_ bh then 0 else capL ay ah by_ bh
def cap2(ax ay aw ah bx by_ bw bh:Int):Int:=if capL ax aw bx bw≥capR ax aw bx bw∨capL ay ah by_ bh≥capR ay ah by_ bh then 0 else capR ax aw bx bw-capL ax aw bx bw
def cap3(ax ay aw ah bx by_ bw bh:Int):Int:=if capL ax aw bx bw≥capR ax aw bx bw∨capL ay ah by_ bh≥capR ay ah by_ bh then 0 else capR ay ah by_ bh-capL ay ah by_ bh
theorem cap_parts ax ay aw ah bx by_ bw bh :capV ax ay aw ah bx by_ bw bh=rv (cap0 ax ay aw ah bx by_ bw bh) (cap1 ax ay aw ah bx by_ bw bh) (cap2 ax ay aw ah bx by_ bw bh) (cap3 ax ay aw ah bx by_ bw bh):=by unfold capV cap0 cap1 cap2 cap3;split<;>rfl
def putPl(P:Nat->Nat->Int)(c:Nat)(v:Nat->Int):Nat->Nat->Int:=fun q t=>if q=c then v t else P q t
def plV(P:Nat->Nat->Int)(i:Nat)(x y a b:Int)(t:Nat):Int:=
 if t=0 then x else if t=1 then y else if t=2 then a else if t=3 then b else if t=4 then cap0 x y a b (P i 4) (P i 5) (P i 6) (P i 7)else if t=5 then cap1 x y a b (P i 4) (P i 5) (P i 6) (P i 7)else if t=6 then cap2 x y a b (P i 4) (P i 5) (P i 6) (P i 7)else if t=7 then cap3 x y a b (P i 4) (P i 5) (P i 6) (P i 7)else 0
def plK(P:Nat->Nat->Int)(i:Nat)(ks:List Nat)(R0 R1 R2 R3:Nat->Int):Nat->Nat->Nat->Int
 |0=>P
 |j+1=>putPl (plK P i ks R0 R1 R2 R3 j) (kdn ks j) (plV P i (R0 j) (R1 j) (R2 j) (R3 j))
section
variable{P:Nat->Nat->Int} {i:Nat} {ks:List Nat} {R0 R1 R2 R3:Nat->Int}
theorem plK_other:∀j,(∀t,t<j->t<ks.length)->∀q,q∉ks->plK P i ks R0 R1 R2 R3 j q=P q
 |0,_,q,_=>rfl
 |j+1,hj,q,hq=>by have:=plK_other j (fun t ht=>hj t (by omega)) q hq;funext t;show(if q=kdn ks j then _ else plK P i ks R0 R1 R2 R3 j q t)=_;rw[if_neg (fun e=>hq (by rw[e];exact kdn_mem (hj j (by omega)))),this]
theorem kdn_inj(hn:ks.Nodup){a b}(ha:a<ks.length)(hb:b<ks.length)(e:kdn ks a=kdn ks b):a=b:=by
 unfold kdn at e;rw[List.getElem?_eq_getElem ha,List.getElem?_eq_getElem hb]at e;rcases Nat.lt_trichotomy a b with h|h|h;·exact absurd e (List.pairwise_iff_getElem.1 hn a b ha hb h)
 ·exact h
 ·exact absurd e.symm (List.pairwise_iff_getElem.1 hn b a hb ha h)
theorem plK_kid(hn:ks.Nodup):∀j,j≤ks.length->∀a,a<j->plK P i ks R0 R1 R2 R3 j (kdn ks a)=plV P i (R0 a) (R1 a) (R2 a) (R3 a)
 |0,_,a,h=>by omega
 |j+1,hj,a,ha=>by
  funext t;show(if kdn ks a=kdn ks j then plV P i (R0 j) (R1 j) (R2 j) (R3 j) t else plK P i ks R0 R1 R2 R3 j (kdn ks a) t)=_;by_cases e:a=j;·rw[e,if_pos rfl]
  ·rw[if_neg (fun q=>e (kdn_inj hn (by omega) (by omega) q)),plK_kid hn j (by omega) a (by omega)]
end
theorem Ch.ok{L}{d}{ks}{a e}(h:Ch L d ks a e):∀j,a≤j->j<e->KidOk (L j):=by
 induction h with
 |nil d a=>intro j h1 h2;omega
 |@cons d c r e1 e h1 h2 h3 h4 i1 i2=>
  intro j k1 k2;by_cases e0:j=c;·subst e0;exact h2
  ·by_cases l:j<e1;·exact i1 j (by omega) l
   ·exact i2 j (by omega) k2
theorem Tree.kidok{s}{L}(h:Tree s L) j (hj:j<L.length):KidOk (nth L j):=h.ch.ok j (Nat.zero_le _) hj
structure PlTo(L:List Nd)(Wd:Nat->Int)(H:Nat->Int->Int)(w h:Int)(idf off:Nat->Int)(sn:Nat)(P:Nat->Nat->Int)(k:Nat):Prop where
 root:P 0 0=0∧P 0 1=0∧P 0 2=w∧P 0 3=h∧P 0 4=0∧P 0 5=0∧P 0 6=w∧P 0 7=h
 sc:∀i,i<L.length->i<k->(nth L i).kind=4->P i 9=roomI (H (kdn (nth L i).kids 0) (P i 2)) (P i 3)∧P i 8=min (max 0 (offI (atN (nth L i) 0) idf off sn)) (P i 9)
 no:∀i,i<L.length->(k≤i∨(nth L i).kind≠4)->P i 8=0∧P i 9=0
 kr:∀i,i<L.length->i<k->∃R0 R1 R2 R3,KrSpec (nth L i).kind (atN (nth L i) 4) (atN (nth L i) 5) (atN (nth L i) 6) L (nth L i).kids Wd H (P i 0) (P i 1) (P i 2) (P i 3) (P i 8) (P i 9) R0 R1 R2 R3∧∀j,j<(nth L i).kids.length->∀t,t<8->P (kdn (nth L i).kids j) t=plV P i (R0 j) (R1 j) (R2 j) (R3 j) t
 bd:∀i,i<L.length->-(((i:Int)+1)*100000000)≤P i 0∧P i 0≤((i:Int)+1)*100000000∧-(((i:Int)+1)*100000000)≤P i 1∧P i 1≤((i:Int)+1)*100000000∧0≤P i 2∧P i 2≤100000∧0≤P i 3∧P i 3≤100000
theorem ins_parts{x y a b n i0 i1 i2 i3}(h:insV x y a b n=rv i0 i1 i2 i3):-200000≤i0∧i0≤200000∧-200000≤i1∧i1≤200000∧0≤i2∧i2≤100000∧0≤i3∧i3≤100000:=by unfold insV at h;obtain⟨rfl,rfl,rfl,rfl⟩:=rv_inj h;have h1:=posI_bd x;have h2:=posI_bd y;have h3:=lenI_bd a;have h4:=lenI_bd b;have h5:=lenI_bd n;omega
theorem KrSpec.bd{kd a4 a5 a6}{L}{ks}{Wd}{H}{x y w h of rm}{R0 R1 R2 R3}(s:KrSpec kd a4 a5 a6 L ks Wd H x y w h of rm R0 R1 R2 R3)(hm:ks.length≤100)(hw:0≤w∧w≤100000)(hh:0≤h∧h≤100000)(hof:0≤of∧of≤100000)(hrm:0≤rm∧h+rm≤100000) B (hB:100000000≤B)(hx:-B≤x∧x≤B)(hy:-B≤y∧y≤B) j (hj:j<ks.length):
 -(B+100000000)≤R0 j∧R0 j≤B+100000000∧-(B+100000000)≤R1 j∧R1 j≤B+100000000∧0≤R2 j∧R2 j≤100000∧0≤R3 j∧R3 j≤100000:=by
 by_cases h0:kd=0;·obtain⟨G,g1,g2,g3⟩:=s.row h0;obtain⟨e0,e1,e2,e3⟩:=g3 j hj;have ho:=offs_bd g2 (cl_bd a4) j (by omega);have hg:=g2 j hj;omega
 ·by_cases h1:kd=1;·obtain⟨G,g1,g2,g3⟩:=s.col h1;obtain⟨e0,e1,e2,e3⟩:=g3 j hj;have ho:=offs_bd g2 (cl_bd a4) j (by omega);have hg:=g2 j hj;omega
  ·by_cases h3:kd=3;·have:=ins_parts (s.box h3 j hj);omega
   ·by_cases h4:kd=4;·obtain⟨e0,e1,e2,e3⟩:=s.scr h4 j hj;omega
    ·obtain⟨e0,e1,e2,e3⟩:=s.rest h0 h1 h3 h4 j hj;omega
theorem KrSpec.congr{kd a4 a5 a6}{L}{ks}{Wd}{H}{x y w h of rm x' y' w' h' of' rm'}{R0 R1 R2 R3}(s:KrSpec kd a4 a5 a6 L ks Wd H x y w h of rm R0 R1 R2 R3)(e0:x=x')(e1:y=y')(e2:w=w')(e3:h=h')(e4:of=of')(e5:rm=rm'):KrSpec kd a4 a5 a6 L ks Wd H x' y' w' h' of' rm' R0 R1 R2 R3:=by subst e0 e1 e2 e3 e4 e5;exact s
theorem PlTo.step{s}{L}{Wd}{H}{w h}{idf off}{sn k}{P P1}{R0 R1 R2 R3}(hT:Tree s L)(hS:Sz L Wd H)(hp:PlTo L Wd H w h idf off sn P k)(hk:k<L.length)
 (h1:∀q t,¬(q=k∧(t=8∨t=9))->P1 q t=P q t)
 (h4:(nth L k).kind=4->P1 k 9=roomI (H (kdn (nth L k).kids 0) (P k 2)) (P k 3)∧P1 k 8=min (max 0 (offI (atN (nth L k) 0) idf off sn)) (P1 k 9))
 (hn:(nth L k).kind≠4->P1 k 8=0∧P1 k 9=0)
 (hs:KrSpec (nth L k).kind (atN (nth L k) 4) (atN (nth L k) 5) (atN (nth L k) 6) L (nth L k).kids Wd H (P1 k 0) (P1 k 1) (P1 k 2) (P1 k 3) (P1 k 8) (P1 k 9) R0 R1 R2 R3):
 PlTo L Wd H w h idf off sn (plK P1 k (nth L k).kids R0 R1 R2 R3 (nth L k).kids.length) (k+1):=by
 obtain⟨ks,hks⟩:=nmd ((nth L k).kids);rw[hks]at hs h4⊢;have hnd:ks.Nodup:=by rw[<-hks];exact hT.nest.nd k hk
 have hkid:∀c,c∈ks->k<c∧c<L.length∧(nth L c).up=(k:Int):=fun c hc=>hT.nest.kid k c hk (by show c∈(nth L k).kids;rw[hks];exact hc);have hlen:ks.length≤100:=by rw[<-hks];exact hT.kids_le hk
 obtain⟨Q,hQ⟩:=nmd (plK P1 k ks R0 R1 R2 R3 ks.length);have q1:∀q,q∉ks->Q q=P1 q:=fun q hq=>by rw[<-hQ];exact plK_other _ (fun t ht=>ht) q hq
 have q2:∀a,a<ks.length->Q (kdn ks a)=plV P1 k (R0 a) (R1 a) (R2 a) (R3 a):=fun a ha=>by rw[<-hQ];exact plK_kid hnd _ (Nat.le_refl _) a ha
 rw[hQ];have hkk:k∉ks:=fun hc=>by have:=(hkid k hc).1;omega
 have hQk:Q k=P1 k:=q1 k hkk;have h00:0∉ks:=fun hc=>by have:=(hkid 0 hc).1;omega
 have nk:∀i,i<k->i∉ks:=fun i hi hc=>by have:=(hkid i hc).1;omega
 have mem:∀c,c∈ks->∃a,a<ks.length∧kdn ks a=c:=fun c hc=>by obtain⟨a,ha,e⟩:=List.mem_iff_getElem.1 hc;exact⟨a,ha,by unfold kdn;rw[List.getElem?_eq_getElem ha];exact e⟩
 have hbk:=hp.bd k hk;have e01:P1 k 0=P k 0:=h1 k 0 (by omega);have e11:P1 k 1=P k 1:=h1 k 1 (by omega);have e21:P1 k 2=P k 2:=h1 k 2 (by omega);have e31:P1 k 3=P k 3:=h1 k 3 (by omega);have hor:0≤P1 k 8∧P1 k 8≤100000∧0≤P1 k 9∧P1 k 3+P1 k 9≤100000:=by
  by_cases e4:(nth L k).kind=4
  ·obtain⟨r1,r2⟩:=h4 e4;have hkid0:kdn ks 0<L.length:=by
    rcases hT.kidok k hk with q|⟨_,_,q⟩|⟨q,_⟩;·omega
    ·rw[hks]at q;exact(hkid _ (kdn_mem (by omega))).2.1
    ·omega
   have hh:=hS.hb (kdn ks 0) (P k 2) hkid0;unfold roomI at r1;omega
  ·obtain⟨r1,r2⟩:=hn e4;omega
 refine⟨?_,fun i hi hik e4=>?_,fun i hi hik=>?_,fun i hi hik=>?_,fun i hi=>?_⟩;·rw[q1 0 h00];have r:=hp.root;rw[h1 0 0 (by omega),h1 0 1 (by omega),h1 0 2 (by omega),h1 0 3 (by omega),h1 0 4 (by omega),h1 0 5 (by omega),h1 0 6 (by omega),h1 0 7 (by omega)];exact r
 ·by_cases e:i=k;·subst e;rw[hQk,hks,e21,e31];exact h4 e4
  ·rw[q1 i (nk i (by omega)),h1 i 9 (by omega),h1 i 8 (by omega),h1 i 2 (by omega),h1 i 3 (by omega)];exact hp.sc i hi (by omega) e4
 ·by_cases hm:i∈ks;·obtain⟨a,ha,rfl⟩:=mem i hm;rw[q2 a ha];exact⟨rfl,rfl⟩
  ·rw[q1 i hm];by_cases e:i=k;·subst e;exact hn (by rcases hik with q|q;omega;exact q)
   ·rw[h1 i 8 (by omega),h1 i 9 (by omega)];exact hp.no i hi (by rcases hik with q|q;exact .inl (by omega);exact .inr q)
 ·by_cases e:i=k;·subst e;refine⟨R0,R1,R2,R3,by rw[hks,hQk];exact hs,fun j hj t ht=>?_⟩;rw[hks]at hj⊢;rw[q2 j hj];unfold plV;rw[hQk]
  ·have hi':i<k:=by omega
   obtain⟨S0,S1,S2,S3,s1,s2⟩:=hp.kr i hi hi';have hQi:∀t,Q i t=P i t:=fun t=>by rw[q1 i (nk i hi')];exact h1 i t (by omega)
   refine⟨S0,S1,S2,S3,by rw[hQi,hQi,hQi,hQi,hQi,hQi];exact s1,fun j hj t ht=>?_⟩;have hc:=hT.nest.kid i _ hi (kdn_mem hj);have hcn:kdn (nth L i).kids j∉ks:=fun q=>by have:=(hkid _ q).2.2;have h9:(nth L (kdn (nth L i).kids j)).up=(i:Int):=hc.2.2;omega
   rw[q1 _ hcn,h1 _ t (by omega),s2 j hj t ht];unfold plV;rw[hQi,hQi,hQi,hQi]
 ·by_cases hm:i∈ks;·have hik:=hkid i hm;obtain⟨a,ha,rfl⟩:=mem i hm;rw[q2 a ha];have hb:=hs.bd hlen (by omega) (by omega) ⟨hor.1,hor.2.1⟩ ⟨hor.2.2.1,hor.2.2.2⟩ (((k:Int)+1)*100000000) (by omega) (by omega) (by omega) a ha;show-(((kdn ks a:Nat):Int)+1)*100000000≤R0 a∧_;show _≤R0 a∧R0 a≤_∧_≤R1 a∧R1 a≤_∧0≤R2 a∧R2 a≤100000∧0≤R3 a∧R3 a≤100000;omega
  ·rw[q1 i hm];have hb:=hp.bd i hi;rw[h1 i 0 (by omega),h1 i 1 (by omega),h1 i 2 (by omega),h1 i 3 (by omega)];exact hb
end
section
theorem Ch.uniq{L}{d}{ks}{a e}(h:Ch L d ks a e):∀{d' e'},Ch L d' ks a e'->e=e':=by
 induction h with
 |nil d a=>intro d' e' h;cases h;rfl
 |@cons d c r e1 e h1 h2 h3 h4 i1 i2=>
  intro d' e' h;cases h with
  |cons _ _ k3 k4=>obtain rfl:=i1 k3;exact i2 k4
theorem Ch.all{L}{d}{ks}{a e}(h:Ch L d ks a e):∀k,a≤k->k<e->∃d' e',Ch L d' (L k).kids (k+1) e'∧e'≤e:=by
 induction h with
 |nil d a=>intro k h1 h2;omega
 |@cons d c r e1 e h1 h2 h3 h4 i1 i2=>
  intro k k1 k2;by_cases e0:k=c;·subst e0;exact⟨_,_,h3,h4.le⟩
  ·by_cases l:k<e1;·obtain⟨d',e',q,q1⟩:=i1 k (by omega) l;exact⟨d',e',q,Nat.le_trans q1 h4.le⟩
   ·exact i2 k (by omega) k2
def stK(en:Nat->Nat)(ks:List Nat)(a:Nat):Nat->Nat
 |0=>a
 |j+1=>en (kdn ks j)
theorem Ch.st{L}{en}{d}{ks}{a e}(h:Ch L d ks a e):(∀k,a≤k->k<e->∃d,Ch L d (L k).kids (k+1) (en k))->(∀j,j<ks.length->kdn ks j=stK en ks a j)∧e=stK en ks a ks.length:=by
 induction h with
 |nil d a=>exact fun _=>⟨fun j hj=>absurd hj (by simp),rfl⟩
 |@cons d c r e1 e h1 h2 h3 h4 i1 i2=>
  intro hen;obtain⟨d0,h0⟩:=hen c (Nat.le_refl _) (by have:=h3.le;have:=h4.le;omega);have e0:e1=en c:=h3.uniq h0;obtain⟨q1,q2⟩:=i2 (fun k a b=>hen k (by have:=h3.le;omega) b);have key:∀j,j≤r.length->stK en (c::r) c (j+1)=stK en r e1 j:=fun j hj=>by
   cases j with
   |zero=>exact e0.symm
   |succ j=>rfl
  refine⟨fun j hj=>?_,?_⟩;·cases j with
   |zero=>rfl
   |succ j=>rw[key j (by simp at hj;omega)];exact q1 j (by simpa using hj)
  ·rw[List.length_cons,key _ (Nat.le_refl _)];exact q2
structure En(L:List Nd)(en:Nat->Nat):Prop where
 lt:∀k,k<L.length->k<en k
 le:∀k,k<L.length->en k≤L.length
 kid:∀k j,k<L.length->j<(nth L k).kids.length->kdn (nth L k).kids j=stK en (nth L k).kids (k+1) j
 last:∀k,k<L.length->en k=stK en (nth L k).kids (k+1) (nth L k).kids.length
 sub:∀k i,k<L.length->k≤i->i<en k->en i≤en k
theorem en_ex{s}{L}(hT:Tree s L):∃en,En L en:=by
 have key:∀k,∃e,k<L.length->∃d,Ch (nth L) d (nth L k).kids (k+1) e∧e≤L.length:=fun k=>by
  by_cases h:k<L.length;·obtain⟨d,e,h1,h2⟩:=hT.ch.all k (Nat.zero_le _) h;exact⟨e,fun _=>⟨d,h1,h2⟩⟩
  ·exact⟨0,fun q=>absurd q h⟩
 obtain⟨en,hen⟩:=Classical.skolem.1 key;have st:∀k,k<L.length->(∀j,j<(nth L k).kids.length->kdn (nth L k).kids j=stK en (nth L k).kids (k+1) j)∧en k=stK en (nth L k).kids (k+1) (nth L k).kids.length:=fun k hk=>by obtain⟨d,h1,h2⟩:=hen k hk;exact h1.st (en:=en) (fun i _ b=>(hen i (by omega)).imp fun _ q=>q.1)
 refine⟨en,fun k hk=>by obtain⟨_,h1,_⟩:=hen k hk;have:=h1.le;omega,fun k hk=>(hen k hk).choose_spec.2,fun k j hk hj=>(st k hk).1 j hj,fun k hk=>(st k hk).2,fun k i hk h1 h2=>?_⟩;by_cases e:i=k;·rw[e];exact Nat.le_refl _
 ·obtain⟨_,q,ql⟩:=hen k hk;obtain⟨_,e',q1,q2⟩:=q.all i (by omega) h2;obtain⟨_,q3,_⟩:=hen i (by omega);rw[q3.uniq q1];exact q2
section
variable{s:ByteArray} {L:List Nd} {en:Nat->Nat}
theorem En.st_mono(h:En L en)(hT:Tree s L){k}(hk:k<L.length){j}(hj:j<(nth L k).kids.length):stK en (nth L k).kids (k+1) j<stK en (nth L k).kids (k+1) (j+1):=by rw[<-h.kid k j hk hj];exact h.lt _ (hT.nest.kid k _ hk (kdn_mem hj)).2.1
theorem En.st_up(h:En L en)(hT:Tree s L){k}(hk:k<L.length):∀d j,j+d≤(nth L k).kids.length->stK en (nth L k).kids (k+1) j≤stK en (nth L k).kids (k+1) (j+d)
 |0,j,_=>Nat.le_refl _
 |d+1,j,hj=>Nat.le_trans (h.st_up hT hk d j (by omega)) (Nat.le_of_lt (h.st_mono hT hk (j:=j+d) (by omega)))
theorem En.st_end(h:En L en)(hT:Tree s L){k}(hk:k<L.length){j}(hj:j≤(nth L k).kids.length):stK en (nth L k).kids (k+1) j≤en k:=by rw[h.last k hk];have:=h.st_up hT hk ((nth L k).kids.length-j) j (by omega);rw[show j+((nth L k).kids.length-j)=(nth L k).kids.length by omega]at this;exact this
theorem En.find(h:En L en){k}(hk:k<L.length):∀j,j≤(nth L k).kids.length->∀i,k<i->i<stK en (nth L k).kids (k+1) j->∃a,a<j∧kdn (nth L k).kids a≤i∧i<en (kdn (nth L k).kids a)
 |0,_,i,h1,h2=>by have:i<k+1:=h2;omega
 |j+1,hj,i,h1,h2=>by
  by_cases e:kdn (nth L k).kids j≤i;·exact⟨j,by omega,e,h2⟩
  ·rw[h.kid k j hk (by omega)]at e;obtain⟨a,q1,q2⟩:=h.find hk j (by omega) i h1 (by omega);exact⟨a,by omega,q2⟩
end
def LayAt(L:List Nd)(Wd:Nat->Int)(H:Nat->Int->Int)(idf off:Nat->Int)(sn:Nat)(P:Nat->Nat->Int)(i:Nat):Prop:=
 ((nth L i).kind=4->P i 9=roomI (H (kdn (nth L i).kids 0) (P i 2)) (P i 3)∧P i 8=min (max 0 (offI (atN (nth L i) 0) idf off sn)) (P i 9))∧((nth L i).kind≠4->P i 8=0∧P i 9=0)∧
  ∃R0 R1 R2 R3,KrSpec (nth L i).kind (atN (nth L i) 4) (atN (nth L i) 5) (atN (nth L i) 6) L (nth L i).kids Wd H (P i 0) (P i 1) (P i 2) (P i 3) (P i 8) (P i 9) R0 R1 R2 R3∧∀j,j<(nth L i).kids.length->∀t,t<8->P (kdn (nth L i).kids j) t=plV P i (R0 j) (R1 j) (R2 j) (R3 j) t
theorem LayAt.congr{L}{Wd}{H}{idf off}{sn}{P P'}{i}(h:LayAt L Wd H idf off sn P i)(h1:P' i=P i)(h2:∀j,j<(nth L i).kids.length->∀t,t<8->P' (kdn (nth L i).kids j) t=P (kdn (nth L i).kids j) t):LayAt L Wd H idf off sn P' i:=by obtain⟨a,b,R0,R1,R2,R3,c,d⟩:=h;refine⟨by rw[h1];exact a,by rw[h1];exact b,R0,R1,R2,R3,by rw[h1];exact c,fun j hj t ht=>?_⟩;rw[h2 j hj t ht,d j hj t ht];unfold plV;rw[h1]
theorem PlTo.all{s}{L}{Wd}{H}{w h}{idf off}{sn}{P}(hT:Tree s L)(hS:Sz L Wd H)(hw:1≤w∧w≤400)(hh:1≤h∧h≤400)(hr:P 0 0=0∧P 0 1=0∧P 0 2=w∧P 0 3=h∧P 0 4=0∧P 0 5=0∧P 0 6=w∧P 0 7=h)(ha:∀i,i<L.length->LayAt L Wd H idf off sn P i):PlTo L Wd H w h idf off sn P L.length:=by
 have bd:∀n i,i<n->i<L.length->-(((i:Int)+1)*100000000)≤P i 0∧P i 0≤((i:Int)+1)*100000000∧-(((i:Int)+1)*100000000)≤P i 1∧P i 1≤((i:Int)+1)*100000000∧0≤P i 2∧P i 2≤100000∧0≤P i 3∧P i 3≤100000:=fun n=>by
  induction n with
  |zero=>intro i h;omega
  |succ n ih=>
   intro i hi hL;by_cases h0:i=0;·subst h0;obtain⟨e0,e1,e2,e3,_⟩:=hr;omega
   ·obtain⟨u,k,hu,hk,hc,hup⟩:=hT.kid_of i (by omega) hL;have hb:=ih u (by omega) (by omega);obtain⟨a1,a2,R0,R1,R2,R3,q1,q2⟩:=ha u (by omega);have hor:0≤P u 8∧P u 8≤100000∧0≤P u 9∧P u 3+P u 9≤100000:=by
     by_cases e4:(nth L u).kind=4;·obtain⟨r1,r2⟩:=a1 e4;have hh:=hS.hb (kdn (nth L u).kids 0) (P u 2) (hT.nest.kid u _ (by omega) (kdn_mem (ks:=(nth L u).kids) (j:=0) (by omega))).2.1;unfold roomI at r1;omega
     ·obtain⟨r1,r2⟩:=a2 e4;omega
    have hB:=q1.bd (hT.kids_le (by omega)) ⟨hb.2.2.2.2.1,hb.2.2.2.2.2.1⟩ ⟨hb.2.2.2.2.2.2.1,hb.2.2.2.2.2.2.2⟩ ⟨hor.1,hor.2.1⟩ ⟨hor.2.2.1,hor.2.2.2⟩ (((u:Int)+1)*100000000) (by omega) ⟨hb.1,hb.2.1⟩ ⟨hb.2.2.1,hb.2.2.2.1⟩ k hk;have p0:P i 0=R0 k:=by rw[<-hc];exact q2 k hk 0 (by omega)
    have p1:P i 1=R1 k:=by rw[<-hc];exact q2 k hk 1 (by omega)
    have p2:P i 2=R2 k:=by rw[<-hc];exact q2 k hk 2 (by omega)
    have p3:P i 3=R3 k:=by rw[<-hc];exact q2 k hk 3 (by omega)
    omega
 exact⟨hr,fun i hi _ e=>(ha i hi).1 e,fun i hi q=>(ha i hi).2.1 (by rcases q with q|q;omega;exact q),fun i hi _=>(ha i hi).2.2,fun i hi=>bd (i+1) i (by omega) hi⟩
structure LyPre(en:Nat->Nat)(P:Nat->Nat->Int)(k:Nat):Prop where
 b0:-(((k:Int)+1)*100000000)≤P k 0∧P k 0≤((k:Int)+1)*100000000
 b1:-(((k:Int)+1)*100000000)≤P k 1∧P k 1≤((k:Int)+1)*100000000
 b2:0≤P k 2∧P k 2≤100000
 b3:0≤P k 3∧P k 3≤100000
 z:∀i,k≤i->i<en k->P i 8=0∧P i 9=0
section
variable(L:List Nd) (en:Nat->Nat) (Wd:Nat->Int) (H:Nat->Int->Int) (idf off:Nat->Int) (sn:Nat)
def LyPost(P Q:Nat->Nat->Int)(k:Nat):Prop:=(∀i,k≤i->i<en k->LayAt L Wd H idf off sn Q i)∧(∀i t,¬(k≤i∧i<en k)->Q i t=P i t)∧∀t,t<8->Q k t=P k t
structure LyInv(R0 R1 R2 R3:Nat->Int)(of rm:Int)(P Q:Nat->Nat->Int)(k j:Nat):Prop where
 dn:∀i,k<i->i<stK en (nth L k).kids (k+1) j->LayAt L Wd H idf off sn Q i
 pl:∀a,a<j->∀t,t<8->Q (kdn (nth L k).kids a) t=plV Q k (R0 a) (R1 a) (R2 a) (R3 a) t
 sm:∀i t,¬(k≤i∧i<stK en (nth L k).kids (k+1) j)->Q i t=P i t
 se:∀t,t<8->Q k t=P k t
 sc:(0<j->Q k 8=of∧Q k 9=rm)∧(j=0->Q k 8=0∧Q k 9=0)
end
def lyPut(Q:Nat->Nat->Int)(k c:Nat)(x y a b of rm:Int)(i t:Nat):Int:=if i=c∧t<8 then plV Q k x y a b t else if i=k∧t=8 then of else if i=k∧t=9 then rm else Q i t
section
variable{s:ByteArray} {L:List Nd} {en:Nat->Nat} {Wd:Nat->Int} {H:Nat->Int->Int} {idf off:Nat->Int} {sn:Nat} {R0 R1 R2 R3:Nat->Int} {of rm:Int} {P Q Q1 Q2:Nat->Nat->Int} {k j:Nat}
theorem plV_congr{P P'}{i}(h:∀t,4≤t->t<8->P' i t=P i t) x y a b  t :plV P' i x y a b t=plV P i x y a b t:=by unfold plV;rw[h 4 (by omega) (by omega),h 5 (by omega) (by omega),h 6 (by omega) (by omega),h 7 (by omega) (by omega)]
theorem LyInv.step(hT:Tree s L)(he:En L en)(hk:k<L.length)(hj:j<(nth L k).kids.length)(h:LyInv L en Wd H idf off sn R0 R1 R2 R3 of rm P Q k j)(h1:∀i t,Q1 i t=lyPut Q k (kdn (nth L k).kids j) (R0 j) (R1 j) (R2 j) (R3 j) of rm i t)(h2:LyPost L en Wd H idf off sn Q1 Q2 (kdn (nth L k).kids j)):LyInv L en Wd H idf off sn R0 R1 R2 R3 of rm P Q2 k (j+1):=by
 have hc:=he.kid k j hk hj;have hcl:=hT.nest.kid k _ hk (kdn_mem hj);have hs1:stK en (nth L k).kids (k+1) (j+1)=en (kdn (nth L k).kids j):=rfl;obtain⟨c,hce⟩:=nmd (kdn (nth L k).kids j);rw[hce]at hc hcl h1 h2 hs1;have hlt:=he.lt c hcl.2.1;have o1:∀i t,i≠c->i≠k->Q1 i t=Q i t:=fun i t a b=>by rw[h1];unfold lyPut;rw[if_neg (fun q=>a q.1),if_neg (fun q=>b q.1),if_neg (fun q=>b q.1)]
 have ok:∀t,t<8->Q1 k t=Q k t:=fun t a=>by rw[h1];unfold lyPut;rw[if_neg (by omega),if_neg (by omega),if_neg (by omega)]
 have o2:∀i t,¬(c≤i∧i<en c)->Q2 i t=Q1 i t:=h2.2.1;have kk:∀t,t<8->Q2 k t=Q k t:=fun t a=>(o2 k t (by omega)).trans (ok t a);have old:∀i,k<i->i<c->Q2 i=Q i:=fun i a b=>by funext t;rw[o2 i t (by omega),o1 i t (by omega) (by omega)]
 refine⟨fun i a b=>?_,fun a ha t ht=>?_,fun i t q=>?_,fun t ht=>(kk t ht).trans (h.se t ht),⟨fun _=>?_,fun q=>by omega⟩⟩
 ·rw[hs1]at b;by_cases l:i<c
  ·refine(h.dn i a (by omega)).congr (old i a l) fun q hq t ht=>?_;obtain⟨z,z1,z2,z3⟩:=he.find hk j (by omega) i a (by omega);have hz:=hT.nest.kid k _ hk (kdn_mem (ks:=(nth L k).kids) (j:=z) (by omega));have e1:=he.sub _ i hz.2.1 z2 z3;have e2:=he.st_up hT hk (j-(z+1)) (z+1) (by omega);rw[show z+1+(j-(z+1))=j by omega]at e2;have e3:stK en (nth L k).kids (k+1) (z+1)=en (kdn (nth L k).kids z):=rfl;have hiL:i<L.length:=by have:=hcl.2.1;omega
   have e4:=hT.nest.kid i _ hiL (kdn_mem hq);have e5:=he.kid i q hiL hq;have e6:=he.st_mono hT hiL hq;have e7:=he.st_end hT hiL (j:=q+1) (by omega);rw[old _ (by omega) (by omega)]
  ·exact h2.1 i (by omega) b
 ·by_cases e:a=j;·subst e;rw[hce,h2.2.2 t ht,h1];unfold lyPut;rw[if_pos ⟨rfl,ht⟩,plV_congr (P:=Q) (P':=Q2) (i:=k) (fun t _ q=>kk t q)]
  ·have hka:=hT.nest.kid k _ hk (kdn_mem (ks:=(nth L k).kids) (j:=a) (by omega));have e1:=he.kid k a hk (by omega);have e2:=he.st_mono hT hk (j:=a) (by omega);have e3:=he.st_up hT hk (j-(a+1)) (a+1) (by omega);rw[show a+1+(j-(a+1))=j by omega]at e3;rw[old _ (by omega) (by omega),h.pl a (by omega) t ht,plV_congr (P:=Q) (P':=Q2) (i:=k) (fun t _ q=>kk t q)]
 ·rw[hs1]at q;rw[o2 i t (by omega),o1 i t (by omega) (by omega)];exact h.sm i t (by omega)
 ·rw[o2 k 8 (by omega),o2 k 9 (by omega),h1,h1];unfold lyPut;rw[if_neg (by omega),if_pos ⟨rfl,rfl⟩,if_neg (by omega),if_neg (by omega),if_pos ⟨rfl,rfl⟩];exact⟨rfl,rfl⟩
theorem LyInv.pre(hT:Tree s L)(he:En L en)(hk:k<L.length)(hj:j<(nth L k).kids.length)(hP:LyPre en P k)(hs:KrSpec (nth L k).kind (atN (nth L k) 4) (atN (nth L k) 5) (atN (nth L k) 6) L (nth L k).kids Wd H (P k 0) (P k 1) (P k 2) (P k 3) of rm R0 R1 R2 R3)(hof:0≤of∧of≤100000)(hrm:0≤rm∧P k 3+rm≤100000)(h:LyInv L en Wd H idf off sn R0 R1 R2 R3 of rm P Q k j)(h1:∀i t,Q1 i t=lyPut Q k (kdn (nth L k).kids j) (R0 j) (R1 j) (R2 j) (R3 j) of rm i t):LyPre en Q1 (kdn (nth L k).kids j):=by
 have hc:=he.kid k j hk hj;have hcl:=hT.nest.kid k _ hk (kdn_mem hj);have hse:=he.st_end hT hk (j:=j+1) (by omega);have hB:=hs.bd (hT.kids_le hk) hP.b2 hP.b3 hof hrm (((k:Int)+1)*100000000) (by omega) hP.b0 hP.b1 j hj;obtain⟨c,hce⟩:=nmd (kdn (nth L k).kids j);have hs1:stK en (nth L k).kids (k+1) (j+1)=en (kdn (nth L k).kids j):=rfl;rw[hce]at hc hcl h1 hs1⊢;have p:∀t,t<8->Q1 c t=plV Q k (R0 j) (R1 j) (R2 j) (R3 j) t:=fun t ht=>by rw[h1];unfold lyPut;rw[if_pos ⟨rfl,ht⟩]
 have p0:Q1 c 0=R0 j:=p 0 (by omega);have p1:Q1 c 1=R1 j:=p 1 (by omega);have p2:Q1 c 2=R2 j:=p 2 (by omega);have p3:Q1 c 3=R3 j:=p 3 (by omega);refine⟨by omega,by omega,by omega,by omega,fun i a b=>?_⟩;have e:∀t,8≤t->Q1 i t=P i t:=fun t ht=>by rw[h1];unfold lyPut;rw[if_neg (by omega),if_neg (by omega),if_neg (by omega)];exact h.sm i t (by omega)
 rw[e 8 (by omega),e 9 (by omega)];exact hP.z i (by omega) (by omega)
theorem LyInv.fin(hT:Tree s L)(he:En L en)(hk:k<L.length)(hs:KrSpec (nth L k).kind (atN (nth L k) 4) (atN (nth L k) 5) (atN (nth L k) 6) L (nth L k).kids Wd H (P k 0) (P k 1) (P k 2) (P k 3) of rm R0 R1 R2 R3)(h4:(nth L k).kind=4->rm=roomI (H (kdn (nth L k).kids 0) (P k 2)) (P k 3)∧of=min (max 0 (offI (atN (nth L k) 0) idf off sn)) rm)(hn:(nth L k).kind≠4->of=0∧rm=0)(h:LyInv L en Wd H idf off sn R0 R1 R2 R3 of rm P Q k (nth L k).kids.length):LyPost L en Wd H idf off sn P Q k:=by
 have hl:=he.last k hk;have q:Q k 8=of∧Q k 9=rm:=by
  by_cases h0:0<(nth L k).kids.length;·exact h.sc.1 h0
  ·have e4:(nth L k).kind≠4:=fun e=>by rcases hT.kidok k hk with z|⟨_,_,z⟩|⟨z,_⟩<;>omega
   have:=h.sc.2 (by omega);have:=hn e4;omega
 refine⟨fun i a b=>?_,fun i t a=>h.sm i t (by rw[<-hl];exact a),h.se⟩;by_cases e:i=k
 ·subst e;have s0:=h.se 0 (by omega);have s1:=h.se 1 (by omega);have s2:=h.se 2 (by omega);have s3:=h.se 3 (by omega);refine⟨fun e=>?_,fun e=>?_,R0,R1,R2,R3,?_,fun a ha t ht=>h.pl a ha t ht⟩;·rw[q.1,q.2,s2,s3];exact h4 e
  ·rw[q.1,q.2];exact hn e
  ·rw[q.1,q.2,s0,s1,s2,s3];exact hs
 ·exact h.dn i (by omega) (by rw[<-hl];exact b)
theorem put8 Q  c (v:Nat->Int) i t :putAt (putAt (putAt (putAt (putAt (putAt (putAt (putAt Q c 0 (v 0)) c 1 (v 1)) c 2 (v 2)) c 3 (v 3)) c 4 (v 4)) c 5 (v 5)) c 6 (v 6)) c 7 (v 7) i t=if i=c∧t<8 then v t else Q i t:=by
 have p:∀(Q:Nat->Nat->Int) n,putAt Q c n (v n) i t=if i=c∧t=n then v t else Q i t:=fun Q n=>by
  unfold putAt;by_cases e:i=c∧t=n;·rw[if_pos e,if_pos e,e.2]
  ·rw[if_neg e,if_neg e]
 simp only[p];by_cases h:i=c∧t<8
 ·rw[if_pos h];have:t=0∨t=1∨t=2∨t=3∨t=4∨t=5∨t=6∨t=7:=by omega
  rcases this with rfl|rfl|rfl|rfl|rfl|rfl|rfl|rfl<;>simp[h.1]
 ·rw[if_neg h,if_neg (by omega),if_neg (by omega),if_neg (by omega),if_neg (by omega),if_neg (by omega),if_neg (by omega),if_neg (by omega),if_neg (by omega)]
end
end
section
open Go.RowKit Go.Sort Go.Proofs.Tryz
structure KrG(kd a4 a5 a6:Int)(L:List Nd)(ks:List Nat)(Wd:Nat->Int)(H:Nat->Int->Int)(x y w h o of rm:Int)(G R0 R1 R2 R3:Nat->Int):Prop where
 g0:kd=0->ks.length=0∨KidSpl L ks (fun j=>Wd (kdn ks j)) w a4 G
 g1:kd=1->ks.length=0∨KidSpl L ks (fun j=>H (kdn ks j) w) h a4 G
 gb:∀j,j<ks.length->0≤G j∧G j≤100000
 r0:kd=0->∀j,R0 j=x+offs G (cl a4) j∧R1 j=y∧R2 j=G j∧R3 j=h
 r1:kd=1->∀j,R0 j=x∧R1 j=y+offs G (cl a4) j∧R2 j=w∧R3 j=G j
 r3:kd=3->∀j,insV x y w h (a6+a5)=rv (R0 j) (R1 j) (R2 j) (R3 j)
 r4:kd=4->(rm=roomI (H (kdn ks 0) w) h∧of=min (max 0 o) rm)∧∀j,R0 j=x∧R1 j=y-of∧R2 j=w∧R3 j=h+rm
 rr:kd≠0->kd≠1->kd≠3->kd≠4->∀j,R0 j=x∧R1 j=y∧R2 j=w∧R3 j=h
 no:kd≠4->of=0∧rm=0
section
variable{kd a4 a5 a6:Int} {L:List Nd} {ks:List Nat} {Wd:Nat->Int} {H:Nat->Int->Int} {x y w h o of rm:Int} {G R0 R1 R2 R3:Nat->Int}
theorem KrG.spec(k:KrG kd a4 a5 a6 L ks Wd H x y w h o of rm G R0 R1 R2 R3):KrSpec kd a4 a5 a6 L ks Wd H x y w h of rm R0 R1 R2 R3:=
 ⟨fun e=>⟨G,(k.g0 e).imp List.eq_nil_of_length_eq_zero id,k.gb,fun j _=>k.r0 e j⟩,fun e=>⟨G,(k.g1 e).imp List.eq_nil_of_length_eq_zero id,k.gb,fun j _=>k.r1 e j⟩,fun e j _=>k.r3 e j,fun e j _=>(k.r4 e).2 j,fun a b c d j _=>k.rr a b c d j⟩
end
theorem spl_bd L  ks  N  room gap (U:World)(hm:ks.length≤200):∃G,(ks.length=0∨KidSpl L ks N room gap G)∧∀j,j<ks.length->0≤G j∧G j≤100000:=by
 by_cases h0:ks.length=0;·exact⟨fun _=>0,.inl h0,fun j hj=>by omega⟩
 ·obtain⟨G,hG⟩:=kidspl_ex L ks N room gap U (by omega) hm;refine⟨G,.inr hG,fun j hj=>?_⟩;have:=(SplitIs.tiles hG (hb_held0 _ _ _)).1 j hj;exact⟨this.1,Int.le_trans this.2 (hMax_bd _ _).2⟩
theorem kr_ex L  ks  Wd  H (U:World)(hm:ks.length≤200) kd a4 a5 a6 x y w h o :∃of rm G R0 R1 R2 R3,KrG kd a4 a5 a6 L ks Wd H x y w h o of rm G R0 R1 R2 R3:=by
 by_cases h0:kd=0;·obtain⟨G,g1,g2⟩:=spl_bd L ks (fun j=>Wd (kdn ks j)) w a4 U hm;exact⟨0,0,G,fun j=>x+offs G (cl a4) j,fun _=>y,G,fun _=>h,fun _=>g1,fun e=>by omega,g2,fun _ j=>⟨rfl,rfl,rfl,rfl⟩,fun e=>by omega,fun e=>by omega,fun e=>by omega,fun e=>absurd h0 e,fun _=>⟨rfl,rfl⟩⟩
 ·by_cases h1:kd=1;·obtain⟨G,g1,g2⟩:=spl_bd L ks (fun j=>H (kdn ks j) w) h a4 U hm;exact⟨0,0,G,fun _=>x,fun j=>y+offs G (cl a4) j,fun _=>w,G,fun e=>by omega,fun _=>g1,g2,fun e=>by omega,fun _ j=>⟨rfl,rfl,rfl,rfl⟩,fun e=>by omega,fun e=>by omega,fun _ e=>absurd h1 e,fun _=>⟨rfl,rfl⟩⟩
  ·by_cases h3:kd=3;·obtain⟨i0,i1,i2,i3,hi⟩:∃i0 i1 i2 i3,insV x y w h (a6+a5)=rv i0 i1 i2 i3:=⟨_,_,_,_,rfl⟩;exact⟨0,0,fun _=>0,fun _=>i0,fun _=>i1,fun _=>i2,fun _=>i3,fun e=>by omega,fun e=>by omega,fun j _=>⟨by omega,by omega⟩,fun e=>by omega,fun e=>by omega,fun _ _=>hi,fun e=>by omega,fun _ _ e=>absurd h3 e,fun _=>⟨rfl,rfl⟩⟩
   ·by_cases h4:kd=4;·exact⟨min (max 0 o) (roomI (H (kdn ks 0) w) h),roomI (H (kdn ks 0) w) h,fun _=>0,fun _=>x,fun _=>y-min (max 0 o) (roomI (H (kdn ks 0) w) h),fun _=>w,fun _=>h+roomI (H (kdn ks 0) w) h,fun e=>by omega,fun e=>by omega,fun j _=>⟨by omega,by omega⟩,fun e=>by omega,fun e=>by omega,fun e=>by omega,fun _=>⟨⟨rfl,rfl⟩,fun _=>⟨rfl,rfl,rfl,rfl⟩⟩,fun _ _ _ e=>absurd h4 e,fun e=>absurd h4 e⟩
    ·exact⟨0,0,fun _=>0,fun _=>x,fun _=>y,fun _=>w,fun _=>h,fun e=>by omega,fun e=>by omega,fun j _=>⟨by omega,by omega⟩,fun e=>by omega,fun e=>by omega,fun e=>by omega,fun e=>by omega,fun _ _ _ _ _=>⟨rfl,rfl,rfl,rfl⟩,fun _=>⟨rfl,rfl⟩⟩
def IV(W:World)(B m:Nat)(G:Nat->Int)(v:Value):Prop:=0<m->∃ob,v=Sq ob m m∧B≤ob∧∀i,i<m->W.cell? ⟨ob,i,none⟩=some (Iq (G i))
theorem IV.below{W W'}{B m}{G}{v}(h:IV W B m G v)(hb:Below W.heap.size W W'):IV W' B m G v:=fun a=>by obtain⟨ob,e,b,c⟩:=h a;exact⟨ob,e,b,fun i hi=>cell_up hb (c i hi)⟩
theorem IV.mono{W}{B B' m}{G}{v}(h:IV W B m G v)(hb:B'≤B):IV W B' m G v:=fun a=>by obtain⟨ob,e,b,c⟩:=h a;exact⟨ob,e,Nat.le_trans hb b,c⟩
theorem ac_sp{U U'}{L}{ks}{N}{e}{room gap}{G}(h:AcOut U U' L ks N e)(hm:ks.length≤200)(hG:ks.length=0∨KidSpl L ks N room gap G):
 ∃p c,e=.returned (.slice p ks.length c)∧Hid (Below U.heap.size U U')∧Hid (Calls prog 33 #[Iq room,Iq gap,.slice p ks.length c] U' fun e x=>∃v,e=.returned v∧Hid (Below U'.heap.size U' x)∧Hid (IV x U.heap.size ks.length G v))∧Hid (Calls prog 103 #[Iq room,Iq gap,.slice p ks.length c] U' fun e x=>∃v,e=.returned v∧Hid (Below U'.heap.size U' x)∧Hid (IV x U.heap.size ks.length (offs G (cl gap)) v)):=by
 obtain⟨p,c,rfl,hr,hb⟩:=h;refine⟨p,c,rfl,hb,?_⟩;by_cases h0:ks.length=0
 ·rw[h0];have z:=rSplit_zero p c room gap U';constructor;·refine z.mono ?_;rintro e x ⟨q,rfl,hb'⟩;exact⟨_,rfl,hb',fun h=>by omega⟩
  ·refine(rOff_zero _ room gap U' p z).mono ?_;rintro e x ⟨q,rfl,hb'⟩;exact⟨_,rfl,hb',fun h=>by omega⟩
 ·obtain⟨b,rfl,hr2⟩:=hr.resolve_left h0;have hsp:=hG.resolve_left h0;constructor;·refine(rSplit_some ks.length b 0 c _ _ _ room gap U' hr2 (by omega) hm G hsp).mono ?_;rintro e x ⟨ob,rfl,hB,hf,hb'⟩;exact⟨_,rfl,hb',fun _=>⟨ob,rfl,Nat.le_trans hb.size hB,fun i hi=>by have:=(hf.2 i hi).1;rw[Nat.zero_add]at this;exact this⟩⟩
  ·refine(rOff_some ks.length b 0 c _ _ _ room gap U' hr2 (by omega) hm G hsp).mono ?_;rintro e x ⟨ob,rfl,hB,hf,hb'⟩;exact⟨_,rfl,hb',fun _=>⟨ob,rfl,Nat.le_trans hb.size hB,fun i hi=>by have:=(hf.2 i hi).1;rw[Nat.zero_add]at this;exact this⟩⟩
end
section
open Go.RowKit Go.Sort Go.Proofs.Tryz
theorem cS_const a :∀m,cS (fun _=>a) m=a*m
 |0=>rfl
 |m+1=>by show cS (fun _=>a) m+a=_;rw[cS_const a m,Nat.mul_succ]
theorem kidRects_any{s}{L}{KV}{Wd}{H} mb r g cap wb nn (hT:Tree s L)(hS:Sz L Wd H) i (hi:i<L.length) p  c (hkv:KV i=.slice p (nth L i).kids.length c) x y w h c0 c1 c2 c3 of rm  U (hU:Hs U mb r g cap wb L KV Wd H nn)(hn:nn≤10000000)
 (hx:-1000000000000≤x∧x≤1000000000000) (hy:-1000000000000≤y∧y≤1000000000000) (hw:0≤w∧w≤100000) (hh:0≤h∧h≤100000) (hof:0≤of∧of≤100000) (hrm:0≤rm∧rm≤100000):
 Calls prog 65 #[Pq mb,ndA (nth L i).kind (atN (nth L i) 0) (atN (nth L i) 1) (atN (nth L i) 2) (atN (nth L i) 3) (atN (nth L i) 4) (atN (nth L i) 5) (atN (nth L i) 6) (atN (nth L i) 7) (atN (nth L i) 8) (atN (nth L i) 9) (atN (nth L i) 10) (atN (nth L i) 11) ⟨(nth L i).text.toArray⟩ (.slice p (nth L i).kids.length c) (nth L i).up,.agg #[Iq x,Iq y,Iq w,Iq h,Iq c0,Iq c1,Iq c2,Iq c3,Iq of,Iq rm]] U fun e U'=>KrOut U U' r (nth L i).kids.length H (nn+10000) (KrSpec (nth L i).kind (atN (nth L i) 4) (atN (nth L i) 5) (atN (nth L i) 6) L (nth L i).kids Wd H x y w h of rm) e:=by
 have hbd:=(hT.vl.nv i hi).bd;have hc:=hT.vl.cnt;have hkl:(nth L i).kids.length≤100:=hT.kids_le hi;have hki:IntsN U r p (nth L i).kids.length (fun t=>(kdn (nth L i).kids t:Int)):=by obtain⟨p',c',e,hk⟩:=hU.view.kid i hi;rw[hkv]at e;injection e with e1 e2 e3;rw[e1];exact hk
 have hcm:∀j,cS (fun _=>100) j=100*j:=cS_const 100;refine(kidRects_kind mb r nn _ L _ Wd H _ _ _ _ _ _ _ _ _ _ _ _ _ _ _ p c x y w h c0 c1 c2 c3 of rm U rfl (by omega) hU.memo hx hy hw hh (by omega) (by omega) hof hrm (fun _ u hu hmu=>?_) (fun _ u hu hmu=>?_)).mono fun e U' h=>h.mono (by omega);·refine(rowWants_any mb r g cap wb nn L (nth L i).kids KV Wd H _ _ _ _ _ _ _ _ _ _ _ _ _ _ _ p c u (hU.view.grown (grown_of_below hu)) hmu (by omega) (fun j hj=>(kid_lt hT hi hj).2) (by omega) (hki.grown (grown_of_below hu)) (fun j hj=>hS.wb j hj)).mono ?_;rintro e u' ⟨v,q0,lb,q1,q2,q3,q4,q5⟩;exact⟨v,q0,lb,q1,q2,q3,q4,q5.mono (by omega)⟩
 ·rw[<-hcm];exact colWants_any mb r g cap wb nn w L (nth L i).kids (fun _=>100) KV Wd H _ _ _ _ _ _ _ _ _ _ _ _ _ _ _ p c u (hU.view.grown (grown_of_below hu)) hmu (by omega) (fun j hj=>(kid_lt hT hi hj).2) (by omega) (hki.grown (grown_of_below hu)) (fun j v hj=>hS.hb j v hj) (fun j u' n' hj hu' hm' hn'=>by have hk:=kid_lt hT hi hj;rw[hcm]at hn'⊢;refine(height_any mb r g cap wb hT hS _ w n' u' hk.2 hw.1 hw.2 (hU.grown ((grown_of_below hu).trans hu') hm') (by omega)).mono ?_;rintro e u2 ⟨rfl,q1,q2⟩;exact⟨rfl,q1,q2.mono (by omega)⟩)
end
section
theorem offs_eqv{f g} c :∀k,(∀j,j<k->f j=g j)->offs f c k=offs g c k
 |0,_=>rfl
 |k+1,h=>by rw[offs_next,offs_next,offs_eqv c k (fun j hj=>h j (by omega)),h k (by omega)]
theorem KrSpec.uniq{kd a4 a5 a6}{L}{ks}{Wd}{H}{x y w h of rm}{R0 R1 R2 R3 S0 S1 S2 S3}(s:KrSpec kd a4 a5 a6 L ks Wd H x y w h of rm R0 R1 R2 R3)(s':KrSpec kd a4 a5 a6 L ks Wd H x y w h of rm S0 S1 S2 S3) j (hj:j<ks.length):
 R0 j=S0 j∧R1 j=S1 j∧R2 j=S2 j∧R3 j=S3 j:=by
 have hne:ks≠[]:=fun e=>by rw[e]at hj;exact absurd hj (by simp)
 by_cases h0:kd=0;·obtain⟨G,g1,_,g3⟩:=s.row h0;obtain⟨G',g1',_,g3'⟩:=s'.row h0;have hu:=(g1.resolve_left hne).uniq (g1'.resolve_left hne);obtain⟨e0,e1,e2,e3⟩:=g3 j hj;obtain⟨f0,f1,f2,f3⟩:=g3' j hj;have ho:=offs_eqv (cl a4) j (f:=G) (g:=G') (fun t ht=>hu t (by omega));have hj':=hu j hj;omega
 ·by_cases h1:kd=1;·obtain⟨G,g1,_,g3⟩:=s.col h1;obtain⟨G',g1',_,g3'⟩:=s'.col h1;have hu:=(g1.resolve_left hne).uniq (g1'.resolve_left hne);obtain⟨e0,e1,e2,e3⟩:=g3 j hj;obtain⟨f0,f1,f2,f3⟩:=g3' j hj;have ho:=offs_eqv (cl a4) j (f:=G) (g:=G') (fun t ht=>hu t (by omega));have hj':=hu j hj;omega
  ·by_cases h3:kd=3;·have e:=s.box h3 j hj;have f:=s'.box h3 j hj;exact rv_inj (e.symm.trans f)
   ·by_cases h4:kd=4;·obtain⟨e0,e1,e2,e3⟩:=s.scr h4 j hj;obtain⟨f0,f1,f2,f3⟩:=s'.scr h4 j hj;omega
    ·obtain⟨e0,e1,e2,e3⟩:=s.rest h0 h1 h3 h4 j hj;obtain⟨f0,f1,f2,f3⟩:=s'.rest h0 h1 h3 h4 j hj;omega
section
variable{s:ByteArray} {L:List Nd} {Wd:Nat->Int} {H:Nat->Int->Int} {w h:Int} {idf off:Nat->Int} {sn:Nat} {P Q:Nat->Nat->Int}
theorem PlTo.ext89(hp:PlTo L Wd H w h idf off sn P L.length)(hq:PlTo L Wd H w h idf off sn Q L.length){i}(hi:i<L.length)(h2:P i 2=Q i 2)(h3:P i 3=Q i 3):P i 8=Q i 8∧P i 9=Q i 9:=by
 by_cases h4:(nth L i).kind=4;·obtain⟨a,b⟩:=hp.sc i hi hi h4;obtain⟨c,d⟩:=hq.sc i hi hi h4;rw[h2,h3]at a;have e:P i 9=Q i 9:=a.trans c.symm;rw[e]at b;exact⟨b.trans d.symm,e⟩
 ·obtain⟨a,b⟩:=hp.no i hi (.inr h4);obtain⟨c,d⟩:=hq.no i hi (.inr h4);exact⟨a.trans c.symm,b.trans d.symm⟩
theorem PlTo.uniq(hT:Tree s L)(hp:PlTo L Wd H w h idf off sn P L.length)(hq:PlTo L Wd H w h idf off sn Q L.length):∀n i,i<n->i<L.length->∀t,t<10->P i t=Q i t
 |0,i,h,_=>by omega
 |n+1,i,hn,hi=>by
  have key:∀t,t<8->P i t=Q i t:=by
   by_cases e:i=0
   ·subst e;obtain⟨a0,a1,a2,a3,a4,a5,a6,a7⟩:=hp.root;obtain⟨b0,b1,b2,b3,b4,b5,b6,b7⟩:=hq.root;intro t ht;have:t=0∨t=1∨t=2∨t=3∨t=4∨t=5∨t=6∨t=7:=by omega
    rcases this with rfl|rfl|rfl|rfl|rfl|rfl|rfl|rfl;·exact a0.trans b0.symm
    ·exact a1.trans b1.symm
    ·exact a2.trans b2.symm
    ·exact a3.trans b3.symm
    ·exact a4.trans b4.symm
    ·exact a5.trans b5.symm
    ·exact a6.trans b6.symm
    ·exact a7.trans b7.symm
   ·obtain⟨u,k,hu,hk,hc,hup⟩:=hT.kid_of i (by omega) hi;have ih:=PlTo.uniq hT hp hq n u (by omega) (by omega);obtain⟨R0,R1,R2,R3,hs,hkk⟩:=hp.kr u (by omega) (by omega);obtain⟨S0,S1,S2,S3,hs',hkk'⟩:=hq.kr u (by omega) (by omega);have hs2:=hs.congr (ih 0 (by omega)) (ih 1 (by omega)) (ih 2 (by omega)) (ih 3 (by omega)) (ih 8 (by omega)) (ih 9 (by omega));obtain⟨e0,e1,e2,e3⟩:=hs2.uniq hs' k hk;intro t ht;rw[<-hc,hkk k hk t ht,hkk' k hk t ht,e0,e1,e2,e3];unfold plV;rw[ih 4 (by omega),ih 5 (by omega),ih 6 (by omega),ih 7 (by omega)]
  intro t ht;by_cases h8:t<8;·exact key t h8
  ·obtain⟨a,b⟩:=PlTo.ext89 hp hq hi (key 2 (by omega)) (key 3 (by omega));have:t=8∨t=9:=by omega
   rcases this with rfl|rfl;·exact a
   ·exact b
end
