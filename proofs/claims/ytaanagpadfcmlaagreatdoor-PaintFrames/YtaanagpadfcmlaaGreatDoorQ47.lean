import Derived.Test.YtaanagpadfcmlaaGreatDoorQ46
import Derived.Test.YtaanagpadfcmlaaGreatDoorQ34
set_option linter.all false
set_option maxRecDepth 100000
set_option maxHeartbeats 16000000
namespace Go.Proofs.YtaanagpadfcmlaaGreatDoor
open Go.RowKit Go.Sort Go.Proofs.Tryz
theorem xw{s:ByteArray}{L:List Nd}{T:Nat->Int}{H:Nat->Int->Int}(o:dp s L)(hZ:Sz L T H)(g D k:Nat)(n:k<L.length)(w:Int)(zg:0<=w)(zh:w<=100000)(U:World)(N:ip U g L.length (aa L))(M:(aa L k).kind=5):
 Cw 155 #[Sq g L.length D,Iq (k:Int),Iq w] U λe S=>e=Rw (Iq (H k w))/\Hid (Bt U S):=by
 have P:prog.follows .mixedOrders=true:=ns;have GE:=qH<|greatest_any;have G:=qH<|rCl_any;obtain⟨ab,kp,kc,K,An,d,Z,b,⟨V,c1,c2,c3,c4⟩,C,f,-⟩:=N.opens n;have F:=(o.vl.nv k n).bd;have x:=o.vl.tl k n;have zc:=o.sz;have O:=o.vl.cnt;have zb:=o.kids_le n;obtain⟨z0,z1,z2,z3,z4⟩:=C K (af _ _);obtain⟨y4,y5,y6,y8⟩:=f K (af _ _);have za:(k:Int)<(L.length:Int):=dg
 have z:Hid (H k w=cl (mC (ap (aa L k) 8) (aa L k).text w)):=by rw[hZ.ht k w n M,uW];exact(rfl:aO (mC (ap (aa L k) 8) (aa L k).text w)=_)
 rw[M,show((5:Nat):Int)=5 from rfl]at z0 V d;generalize(aa L k).text=t at z2 c2 d x z;generalize(aa L k).up=up at z4 c4 d;generalize(aa L k).kids.length=m at z3 c3 d;generalize ap (aa L k) 8=A at y8 z;have ze:(⟨t.toArray⟩:ByteArray).size<=4000:=by show t.toArray.size<=_;simp;omega
 have J:Hid (∀u,Cw 80 #[.string ⟨t.toArray⟩] u λe y=>∃p c,e=Rw (.slice p (bj t).length c)/\Hid (Bt u y)):=λu=>by have:=gZ ⟨t.toArray⟩ u dg;refine this.mono ?_;rintro e y ⟨p,c,q,_,B⟩;exact⟨p,c,by simpa using q,B⟩
 have I:Hid (∀u,Cw 79 #[.string ⟨t.toArray⟩,Iq w] u λe y=>∃p c,e=Rw (.slice p (a_ (aG (ak t)) w).length c)/\Hid (Bt u y)):=λu=>by
  refine(rJ ⟨t.toArray⟩ w u dg dg dg).mono ?_;rintro e y ⟨v,rfl,ho,B⟩;rcases cU ho with⟨rfl,Y⟩|⟨X,l,rfl,_⟩;·exact⟨none,0,by simpa using Y.symm,B⟩
  ·exact⟨some (aj X 0),l,rn,B⟩
 obtain⟨Q,r⟩:=ad ((bj t).length);obtain⟨n2,i⟩:=ad ((a_ (aG (ak t)) w).length);have a:Hid (H k w=cl (if w<1 then 0 else if A=1 then(n2:Int)else(Q:Int))):=by have:=fU t;rw[z.out];unfold mC;rw[i,show(t.count 10:Int)+1=(Q:Int)by omega];exact(rfl:cl _=cl _)
 rw[r]at J;rw[i]at I;clear f x F z r i N;by_cases R:w<1;·rw[if_pos R]at a;go_enter func155,ntmps155;go_wp2;go_ret;exact⟨by rw[a.out];rfl,b⟩
 ·rw[if_neg R]at a;by_cases j:A=1
  ·have W:(A==1)=true:=by rw[j];rfl
   rw[if_pos j]at a;clear j;go_enter func155,ntmps155;go_wp2_with(first|(go_at_call 79;refine(I _).mono ?_;rintro e u5 ⟨p,c,rfl,h⟩)|(go_at_call 157;refine(G _ _).mono ?_;rintro e u6 ⟨rfl,E⟩;obtain rfl:=E.symm));go_ret;exact⟨by rw[a.out];rfl,b.trans (h.mono b.size)⟩
  ·have W:(A==1)=false:=by simp;exact j
   rw[if_neg j]at a;clear j;go_enter func155,ntmps155;go_wp2_with(first|(go_at_call 80;refine(J _).mono ?_;rintro e u5 ⟨p,c,rfl,h⟩)|(go_at_call 157;refine(G _ _).mono ?_;rintro e u6 ⟨rfl,E⟩;obtain rfl:=E.symm));go_ret;exact⟨by rw[a.out];rfl,b.trans (h.mono b.size)⟩
theorem ma{s}{L}{q}{H}(i:dp s L)(l:Sz L q H)g a:∀f k,L.length<=k+f->k<L.length->∀w,0<=w->w<=100000->∀U,ip U g L.length (aa L)->
 Cw 155 #[Sq g L.length a,Iq (k:Int),Iq w] U λe p=>e=Rw (Iq (H k w))/\Hid (Bt U p)
 |0,k,h1,d,w,b,c,U,h=>dg
 |f+1,k,h1,d,w,b,c,U,h=>by
  by_cases o:(aa L k).kind=5;·exact xw i l g a k d w b c U h o
  ·refine xt i l g a k d w b c U h o λj r x m n u hu=>?_;have:=di i d r;exact ma i l g a f _ dg this.2 x m n u (h.below hu)
theorem Hx{s}{L}{l}{H}(h:dp s L)(m:Sz L l H)g a k(o:k<L.length)w(b:0<=w)(d:w<=100000)U(f:ip U g L.length (aa L)):
 Cw 152 #[Sq g L.length a,Iq (k:Int),Iq w] U λe i=>CV U i L (aa L k).kids (λj=>H (aH (aa L k).kids j) w) e:=
 wy h _ _ _ _ (λc=>H c w) g a k o U f (.inr ⟨w,rfl,rfl,rfl,rfl⟩) λc n u hu=>ma h m g a L.length c dg n w b d u (f.below hu)
