import Derived.Test.YtaanagpadfcmlaaGreatDoorQ43
import Derived.Test.YtaanagpadfcmlaaGreatDoorQ42
import Derived.Test.YtaanagpadfcmlaaGreatDoorQ46
set_option linter.all false
set_option maxRecDepth 100000
set_option maxHeartbeats 16000000
namespace Go.Proofs.YtaanagpadfcmlaaGreatDoor
open Go.RowKit Go.Sort Go.Proofs.Tryz
def lL(t:List UInt8)(wrap w hh:Int):List (List UInt8):=if w<1 then[]else(gC t wrap w).take hh.toNat
def K2(W:World)(B:Nat)(v:Value)(ls:List (List UInt8)):Prop:=∃p c,v=.slice p ls.length c/\∀k (hk:k<ls.length),∃g,p=some (aj g 0)/\B<=g/\g<W.heap.size/\W.cell? (aj g k)=some (.string ⟨ls[k].toArray⟩)
theorem yS{W:World}{B:Nat}{v:Value}{ls:List (List UInt8)}(h:W.ownsRow B 9 1 v ls.length (cF ls)):K2 W B v ls:=by obtain⟨p,c,e,_,k⟩:=DS h;refine⟨p,c,e,λi hi=>?_⟩;grind
theorem yV{α:Type}(l:List α)(H:Nat):l.take H=l.take (min l.length H)/\(l.take (min l.length H)).length=min l.length H:=rd
theorem JX{l:List (List UInt8)}{i:Nat}(hi:i<l.length):cF (l.take (i+1))=cF (l.take i)++[.string ⟨l[i].toArray⟩]:=by rw[gG hi,kE]
theorem rrows_any(kd:Int)(ab:Nat)(t:ByteArray)(kv:Value)(up W w h:Int)(U:World)(za:U.cell? (aj ab 8)=some (Iq W))(hs:t.size<=4000)(hw:0<=w/\w<=100000)(hh:0<=h/\h<=100000):
 Cw 43 #[KN kd ab t kv up,Iq w,Iq h] U λe U'=>∃v,e=Rw v/\Hid (K2 U' U.heap.size v (lL t.data.toList W w h))/\Hid (Bt U U'):=by
 have zo:prog.follows .mixedOrders=true:=ns;unfold KN;obtain⟨i0,hi,zg,zh,zi⟩:=info_parts pW;obtain⟨A,hA⟩:=ad U.heap.size;obtain⟨W1,Y⟩:=ad (U.alloc (.cells #[Iq kd,Sq ab 12 12,.string t,kv,Iq up] 100));have HB1:Hid (Bt U W1):=by rw[<-Y];exact((Gr.refl U).alloc _).below
 have G:W1.heap[A]?=some (.cells #[Iq kd,Sq ab 12 12,.string t,kv,Iq up] 100 (0,0)):=by rw[<-Y,<-hA];exact heap_alloc_new _ _
 have z1:W1.cell? (aj A 1)=some (Sq ab 12 12):=by rw[Lib.cell_of_heap G];rfl
 have z2:W1.cell? (aj A 2)=some (.string t):=by rw[Lib.cell_of_heap G];rfl
 have y8:=an HB1 za;obtain⟨H,rfl⟩:∃H:Nat,h=(H:Int):=⟨h.toNat,dg⟩;clear G za;unfold lL gC;rw[jG];by_cases w1:w<1;·rw[if_pos w1];go_enter func43,ntmps43;go_wp2;go_ret;exact⟨_,rfl,⟨none,0,rfl,λk hk=>absurd hk rn⟩,dg⟩
 rw[if_neg w1];by_cases O:W=1
 ·have e8:(W==1)=true:=by rw[O];rfl
  rw[if_pos O];have S:Hid (∀u,Cw 79 #[.string t,Iq w] u λe a=>∃p c,e=Rw (.slice p (a_ (aG (ak t.data.toList)) w).length c)/\Hid (∀i (hi:i<(a_ (aG (ak t.data.toList)) w).length),∃b,p=some (aj b 0)/\b<a.heap.size/\a.cell? (aj b (i*5))=some (.string ⟨((a_ (aG (ak t.data.toList)) w)[i]).T.toArray⟩))/\Hid (Bt u a)):=λu=>by
   refine(rJ t w u dg dg dg).mono ?_;rintro e a ⟨v,rfl,ho,D⟩;rcases cU ho with⟨rfl,h0⟩|⟨g',X,rfl,_,hg,_⟩;·exact⟨none,0,by rw[h0],λi hi=>dg,D⟩
   ·refine⟨_,X,rfl,λi hi=>⟨g',rfl,hg,?_⟩,D⟩;have a0:=ho.cells (g:=g') rfl (i*5+0) _ (og _ i hi 0 _ rfl);have e0:((aj g' 0):Addr).add (i*5)=(aj g' (i*5)):=by unfold Addr.add;split<;>simp_all
    grind
  generalize a_ (aG (ak t.data.toList)) w=r at S⊢;obtain⟨n,hn⟩:=ad r.length;have HN:=qH<|hn;obtain⟨N,hN⟩:=ad (min n H);have j:Hid ((r.map (·.T)).take H=(r.map (·.T)).take N/\((r.map (·.T)).take N).length=N):=by have:=yV (r.map (·.T)) H;rw[sD,hn,hN]at this;exact this
  obtain⟨l,hl⟩:=ad (r.map (·.T));have zk:Hid (∀i (hi:i<r.length) (zl:i<l.length),l[i]=r[i].T):=λi hi zl=>rd
  have zj:Hid (l.length=n):=by rw[<-hl,sD];exact hn
  rw[hl]at j⊢;have S:Hid (∀u,Cw 79 #[.string t,Iq w] u λe a=>∃p c,e=Rw (.slice p n c)/\Hid (∀i (hi:i<r.length),∃b,p=some (aj b 0)/\b<a.heap.size/\a.cell? (aj b (i*5))=some (.string ⟨(r[i]).T.toArray⟩))/\Hid (Bt u a)):=by rw[<-hn];exact S
  rw[j.1];clear O hn hl;go_enter func43,ntmps43;go_wp2_with(go_at_call 79;refine(S _).mono ?_;rintro e u5 ⟨p,c,rfl,HL,F⟩);have E:=qH<|HB1.trans (F.mono HB1.size);clear S;go_loopw[7,9] (λv J wr=>∃(i:Nat) (C:List Value),J=Iq (i:Int)/\i<=N/\Hid (C=cF (l.take i))/\wr.ownsRow u5.heap.size 9 1 v i C/\Bt u5 wr) (λ_ J _=>N-(intOf J).toNat);case atStart=>exact⟨0,[],rfl,aR _,rfl,eO _ _ _ _,af _ _⟩
  case round=>
   obtain⟨i,C,rfl,zm,y,d,m⟩:=hrel;by_cases zb:i<N
   ·have q1:(i:Int)<(n:Int):=dg
    have q2:(i:Int)<(H:Int):=dg;have f:i<l.length:=by have:l.length=n:=zj;omega
    have I:i<r.length:=by have:r.length=n:=HN;omega
    obtain⟨b,rfl,D,o⟩:=HL i I;have M:=(m.cell (p:=(aj b _)) D).trans o;clear o;rw[<-zk i I f]at M;have B:Hid (C++[.string ⟨l[i].toArray⟩]=cF (l.take (i+1))):=by show _=_;rw[JX f,y.out]
    generalize l[i]=x at M B;clear y f I;go_wp2_with(at_builtin;refine Gn hi zg zh zi d m [.string ⟨x.toArray⟩] rfl _ _ rfl underlying113 ⟨rfl,by decide,by decide⟩ rfl rfl ⟨rfl,rfl⟩ dg ?_);intro v' w1 s Z;clear d m M;go_wp2;grind[intOf]
   ·obtain rfl:i=N:=dg
    obtain⟨p',c',rfl⟩:=db d;have HS:Hid (K2 wr U.heap.size (.slice p' i c') (l.take i)):=by have h1:=d;rw[y.out]at h1;obtain⟨p2,c2,e',k'⟩:=yS (ls:=l.take i) (by rw[j.2];exact h1);exact⟨p2,c2,e',λk hk=>by obtain⟨g,g1,g2,g3,g4⟩:=k' k hk;exact⟨g,g1,aF E.size g2,g3,g4⟩⟩
    have HE:Hid (Bt U wr):=E.trans (m.mono E.size);clear d m y;by_cases q1:i<n
    ·have K:(i:Int)<(n:Int):=dg
     have zn:¬(i:Int)<(H:Int):=dg;go_wp2;go_ret;simp_all
    ·have K:¬(i:Int)<(n:Int):=dg
     go_wp2;go_ret;simp_all
 ·have e8:(W==1)=false:=by simp;exact O
  rw[if_neg O];have V:Hid (∀u,Cw 80 #[.string t] u λe a=>∃p c,e=Rw (.slice p (bj t.data.toList).length c)/\Hid (∀i (hi:i<(bj t.data.toList).length),∃b,p=some (aj b 0)/\b<a.heap.size/\a.cell? (aj b i)=some (.string ⟨((bj t.data.toList)[i]).toArray⟩))/\Hid (Bt u a)):=λu=>by refine(gZ t u dg).mono ?_;rintro e a ⟨p,c,rfl,⟨b,h1,h2,h3⟩,D⟩;exact⟨p,c,rfl,λi hi=>⟨b,h1,h2,h3 i _ (dI hi)⟩,D⟩
  have hl:t.data.toList.length=t.size:=by rw[dZ];rfl
  have Q:Hid (∀x∈bj t.data.toList,(⟨x.toArray⟩:ByteArray).size<=4000):=λx hx=>by have:=ry t.data.toList _ hx;show x.toArray.size<=_;grind
  have CU:Hid (∀x:List UInt8,(⟨x.toArray⟩:ByteArray).size<=4000->∀u,Cw 81 #[.string ⟨x.toArray⟩,Iq w] u λe a=>e=Rw (.string ⟨(fD (one (aG (ak x))) w).toArray⟩)/\Hid (Bt u a)):=λx hx u=>(Jz ⟨x.toArray⟩ w u dg dg dg).mono λe a q=>⟨rd,q.2⟩;have zc:(bj t.data.toList).length<=4001:=by have:=yj t.data.toList;omega
  obtain⟨l,ze⟩:=ad (bj t.data.toList);rw[ze]at V Q zc⊢;obtain⟨n,hn⟩:=ad l.length;have HN:=qH<|hn;have V:Hid (∀u,Cw 80 #[.string t] u λe a=>∃p c,e=Rw (.slice p n c)/\Hid (∀i (hi:i<l.length),∃b,p=some (aj b 0)/\b<a.heap.size/\a.cell? (aj b i)=some (.string ⟨(l[i]).toArray⟩))/\Hid (Bt u a)):=by rw[<-hn];exact V
  rw[hn]at zc;obtain⟨N,hN⟩:=ad (min n H);have j:Hid ((l.map λp=>fD (one (aG (ak p))) w).take H=(l.map λp=>fD (one (aG (ak p))) w).take N/\((l.map λp=>fD (one (aG (ak p))) w).take N).length=N):=by have:=yV (l.map λp=>fD (one (aG (ak p))) w) H;rw[sD,hn,hN]at this;exact this
  rw[j.1];clear ze O hn hl;go_enter func43,ntmps43;go_wp2_with(go_at_call 80;refine(V _).mono ?_;rintro e u5 ⟨p,c,rfl,HL,F⟩);have E:=qH<|HB1.trans (F.mono HB1.size);clear V;go_loopw[7,11] (λv J wr=>∃(i:Nat) (C:List Value),J=Iq (i:Int)/\i<=N/\Hid (C=cF ((l.map λp=>fD (one (aG (ak p))) w).take i))/\Hid (wr.ownsRow u5.heap.size 9 1 v i C)/\Hid (Bt u5 wr)) (λ_ J _=>N-(intOf J).toNat);case atStart=>exact⟨0,[],rfl,aR _,rfl,eO _ _ _ _,af _ _⟩
  case round=>
   obtain⟨i,C,rfl,zm,y,R,L⟩:=hrel;by_cases zb:i<N
   ·have q1:(i:Int)<(n:Int):=dg
    have q2:(i:Int)<(H:Int):=dg;have f:i<l.length:=by have:l.length=n:=HN;omega
    obtain⟨b,rfl,D,o⟩:=HL i f;have M:=(L.cell (p:=(aj b _)) D).trans o;clear o;have CX:=qH (CU l[i] (Q _ (iE f)));have B:Hid (C++[.string ⟨(fD (one (aG (ak l[i]))) w).toArray⟩]=cF ((l.map λp=>fD (one (aG (ak p))) w).take (i+1))):=by show _=_;rw[JX rd,y.out,List.getElem_map]
    generalize fD (one (aG (ak l[i]))) w=z at CX B;generalize l[i]=x at M CX;clear y f;go_wp2_with(first|(go_at_call 81;refine(CX _).mono ?_;rintro e u6 ⟨rfl,P⟩)|(at_builtin;refine Gn hi zg zh zi (vt R P) (L.trans (P.mono L.size)) [.string ⟨z.toArray⟩] rfl _ _ rfl underlying113 ⟨rfl,by decide,by decide⟩ rfl rfl ⟨rfl,rfl⟩ dg ?_));intro v' w1 s Z;clear R L M;go_wp2;go_roundw;case rel=>exact⟨i+1,_,by go_num,zb,B,s,Z⟩
    grind[intOf]
   ·obtain rfl:i=N:=dg
    obtain⟨p',c',rfl⟩:=db R;have HS:Hid (K2 wr U.heap.size (.slice p' i c') ((l.map λp=>fD (one (aG (ak p))) w).take i)):=by have h1:=R.out;rw[y.out]at h1;obtain⟨p2,c2,e',k'⟩:=yS (ls:=(l.map λp=>fD (one (aG (ak p))) w).take i) (by rw[j.2];exact h1);exact⟨p2,c2,e',λk hk=>by obtain⟨g,g1,g2,g3,g4⟩:=k' k hk;exact⟨g,g1,aF E.size g2,g3,g4⟩⟩
    have HE:Hid (Bt U wr):=E.trans (L.mono E.size);clear R L y;by_cases q1:i<n
    ·have K:(i:Int)<(n:Int):=dg
     have zn:¬(i:Int)<(H:Int):=dg;go_wp2;go_ret;simp_all
    ·have K:¬(i:Int)<(n:Int):=dg
     go_wp2;go_ret;simp_all
