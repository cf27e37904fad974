import Derived.Test.YtadhgppeafpdgaaGreatDoorQ08
import Derived.Test.YtadhgppeafpdgaaGreatDoorQ16
set_option linter.all false
set_option maxRecDepth 100000
set_option maxHeartbeats 16000000
namespace Go.Proofs.YtadhgppeafpdgaaGreatDoor
theorem Bf:∀(n:Nat) (R:List Int),R.length<=n->(∀r∈R,Good r)->∀c∈bi R,bi (ap c.1)=[c]/\c.1.length<=20
 |n,[],_,_,c,hc=>by rw[gS]at hc;cases hc
 |0,r::R,h,_,_,_=>by simp at h
 |n+1,r::R,h,hg,c,hc=>by
  rw[eI (Rh _ _)]at hc;rcases ja.1 hc with rfl|hc
  ·have hr:=A7 (r::R) hg;have h1:=NK (Rh r R) [] (fun x hx=>by cases hx);rw[ik,gS]at h1;refine⟨?_,?_⟩
   ·have e:ap (eY (r::R))=d_ (r::R):=by rw[ma];exact xZ _ hr
    show bi (ap (eY (r::R)))=_;rw[e];exact h1
   ·show(eY (r::R)).length<=20;have h2:=ud (d_ (r::R));have h3:=jC (r::R);rw[ma];omega
  ·have h4:=dZ (Rh r R);exact Bf n _ (by rw[dL];simp at h⊢;omega) (fun x hx=>hg x (l8 hx)) c hc
def GdC(e:Ce):Prop:=e.p=2\/bi (ap e.t.data.toList)=[(e.t.data.toList,1+e.p)]/\e.t.size<=20
def GdT(t:ByteArray)(wd:Int):Prop:=wd=1\/wd=2->bi (ap t.data.toList)=[(t.data.toList,wd)]/\t.size<=20
theorem Og:bi (ap _N.data.toList)=[(_N.data.toList,1+0)]/\_N.size<=20:=by decide+kernel
theorem Of(f g b:Int):GdC (bk f g b):=.inr Og
theorem za2(c:Ce):GdC (bl c):=.inr Og
theorem Td{s:List UInt8}{c:List UInt8×Int}(hc:c∈bi (ap s)):GdT ⟨c.1.toArray⟩ c.2:=fun _=>by have:=Bf _ _ (ae _) (vn s) c hc;exact⟨by simpa using this.1,by simpa[ByteArray.size]using this.2⟩
def AF(W H:Nat)(c:Nat->Nat->Ce):Prop:=∀y x,y<H->x<W->GdC (c y x)
theorem AF.fill{W H l r t d:Nat}{c:Nat->Nat->Ce}{x:Nat->Ce}(h:AF W H c)(hp:PAll W H c)(hr:r<=W)(hx:∀j,GdC (x j)):AF W H (fill c l r t d x):=fun y j hy hj=>by
 by_cases ho:t<=y/\y<d/\l<=j/\j<r
 ·have:Go.Proofs.YtadhgppeafpdgaaGreatDoor.fill c l r t d x y j=x j:=by unfold Go.Proofs.YtadhgppeafpdgaaGreatDoor.fill;rw[if_pos ⟨ho.1,ho.2.1⟩,dQ ho.2.2]
  rw[this];exact hx j
 ·rcases Bz hp hr hy hj ho with e|⟨e,_⟩;·rw[e];exact h y j hy hj
  ·rw[e];exact za2 _
theorem AF.put{W H:Nat}{c:Nat->Nat->Ce}(h:AF W H c)(hp:PAll W H c)(hW:1<=W/\W<=400)(hH:1<=H/\H<=400)(x y:Int)(fk:ByteArray)(wd f g b cx cy ca cb:Int)(ht:GdT fk wd):AF W H (iY W H c x y fk wd f g b cx cy ca cb):=by
 have SF:=eF (W:=W) (H:=H) (by omega) (by omega) x y wd 1 cx cy ca cb;unfold iY Ld;split
 ·rename_i hw;have hg:=ht hw;have h1:=SF.lu;have h2:=SF.l0;refine h.fill hp (by omega) fun j=>?_;unfold putX;split;·exact Of _ _ _
  ·unfold xB;split
   ·rename_i e2;split;·right;rw[e2]at hg;exact hg
    ·left;rfl
   ·right;have:wd=1:=by omega
    rw[this]at hg;exact hg
 ·exact h
theorem AF.fil{W H:Nat}{c:Nat->Nat->Ce}(h:AF W H c)(hp:PAll W H c)(hW:1<=W/\W<=400)(hH:1<=H/\H<=400)(x y a b f g bd cx cy ca cb:Int):AF W H (kq W H c x y a b f g bd cx cy ca cb):=by have SF:=eF (W:=W) (H:=H) (by omega) (by omega) x y a b cx cy ca cb;unfold kq;exact h.fill hp (by have:=SF.lu;have:=SF.l0;omega) fun _=>Of _ _ _
def AQ(e:Ce):Prop:=kn e.f=e.f/\kn e.g=e.g/\bo e.b=e.b
def GL(e:Ce)(n:Int):Prop:=bi (ap e.t.data.toList)=[(e.t.data.toList,n)]
structure Ok1(C:Nat->Ce)(lo hi i:Nat):Prop where
 sty:AQ (C i)
 part:(C i).p=0\/(C i).p=1\/(C i).p=2
 head:(C i).p=1->i+1<hi/\(C (i+1)).p=2/\(C (i+1)).f=(C i).f/\(C (i+1)).g=(C i).g/\(C (i+1)).b=(C i).b
 tail:(C i).p=2->lo<i/\(C (i-1)).p=1/\(C i).t=⟨#[]⟩
 text:(C i).p≠2->GL (C i) ((C i).p+1)
def jM(C:Nat->Ce)(lo hi:Nat):Prop:=∀i,lo<=i->i<hi->Ok1 C lo hi i
structure jg(C:Nat->Ce)(lo hi x:Nat):Prop where
 low:lo<=x
 high:x<=hi
 ok:∀i,lo<=i->i<x->Ok1 C lo hi i
 no:x=lo\/(C (x-1)).p≠1
section
variable{C:Nat->Ce} {lo hi x:Nat}
theorem jg.start(h:lo<=hi):jg C lo hi lo:=⟨ae _,h,fun i h1 h2=>absurd h2 (by omega),.inl rfl⟩
theorem jg.all(h:jg C lo hi hi):jM C lo hi:=h.ok
theorem jg.one(h:jg C lo hi x)(hx:x<hi)(h0:(C x).p=0)(hs:AQ (C x))(ht:GL (C x) 1):jg C lo hi (x+1):=by
 refine⟨by have:=h.low;omega,hx,fun i h1 h2=>?_,.inr (by rw[Ja,h0];decide)⟩;by_cases e:i=x;·subst e;exact⟨hs,.inl h0,fun q=>(by rw[h0]at q;cases q),fun q=>(by rw[h0]at q;cases q),fun _=>by rw[h0];exact ht⟩
 ·exact h.ok i h1 (by omega)
theorem jg.two(h:jg C lo hi x)(hx:x+2<=hi)(h0:(C x).p=1)(hs:AQ (C x))(ht:GL (C x) 2)(h1:C (x+1)=⟨⟨#[]⟩,(C x).f,(C x).g,(C x).b,2⟩):jg C lo hi (x+2):=by
 have hp:(C (x+1)).p=2:=by rw[h1]
 refine⟨by have:=h.low;omega,hx,fun i g1 g2=>?_,.inr (by rw[show x+2-1=x+1 by omega,hp];decide)⟩;by_cases e:i=x;·subst e;exact⟨hs,.inr (.inl h0),fun _=>⟨by omega,hp,by rw[h1],by rw[h1],by rw[h1]⟩,fun q=>(by rw[h0]at q;cases q),fun _=>by rw[h0];exact ht⟩
 ·by_cases e2:i=x+1;·subst e2;exact⟨by unfold AQ;rw[h1];exact hs,.inr (.inr hp),fun q=>(by rw[hp]at q;cases q),fun _=>⟨by have:=h.low;omega,by rw[Ja];exact h0,by rw[h1]⟩,fun q=>absurd hp q⟩
  ·exact h.ok i g1 (by omega)
theorem jg.bad0(h:jg C lo hi x)(hx:x<hi)(h0:(C x).p=0)(hn:¬(AQ (C x)/\GL (C x) 1)):¬jM C lo hi:=fun r=>by have q:=r x h.low hx;refine hn ⟨q.sty,?_⟩;have:=q.text (by rw[h0];decide);rw[h0]at this;exact this
theorem jg.bad1(h:jg C lo hi x)(hx:x<hi)(h0:(C x).p=1)(hn:¬(AQ (C x)/\GL (C x) 2)):¬jM C lo hi:=fun r=>by have q:=r x h.low hx;refine hn ⟨q.sty,?_⟩;have:=q.text (by rw[h0];decide);rw[h0]at this;exact this
theorem jg.bad2(h:jg C lo hi x)(hx:x<hi)(h0:(C x).p=1)(hn:¬(x+2<=hi/\C (x+1)=⟨⟨#[]⟩,(C x).f,(C x).g,(C x).b,2⟩)):¬jM C lo hi:=fun r=>by have q:=r x h.low hx;obtain⟨q1,q2,q3,q4,q5⟩:=q.head h0;have t:=r (x+1) (by have:=h.low;omega) q1;have t2:=(t.tail q2).2.2;refine hn ⟨q1,?_⟩;obtain⟨e,hc⟩:∃e,C (x+1)=e:=⟨_,rfl⟩;rw[hc]at q2 q3 q4 q5 t2;rw[hc];obtain⟨t,f,g,b,p⟩:=e;simp only at q2 q3 q4 q5 t2;rw[q2,q3,q4,q5,t2]
theorem jg.bad3(h:jg C lo hi x)(hx:x<hi)(h0:(C x).p≠0)(h1:(C x).p≠1):¬jM C lo hi:=fun r=>by
  have q:=r x h.low hx
  have h2 : (C x).p = 2 := by rcases q.part with e|e|e;·exact absurd e h0
                              ·exact absurd e h1
                              ·exact e
  obtain⟨t1,t2,_⟩:=q.tail h2;rcases h.no with e|e;·omega
  ·exact e t2
end
def vU(C:Nat->Ce)(n:Nat)(w:Int):Prop:=∃W H:Nat,w=(W:Int)/\n=H*W/\1<=W/\W<=400/\1<=H/\H<=400/\∀y,y<H->jM C (y*W) (y*W+W)
def jJ(C:Nat->Ce)(W H:Nat):Prop:=∀y,y<H->jM C (y*W) (y*W+W)
theorem lJ{W H j:Nat}(hj:j<H*W):∃y x,y<H/\x<W/\j=y*W+x:=by
 have hW:0<W:=by rcases Ri W with h|h;subst h;simp at hj;exact h
 exact⟨j/W,j %W,Eb (by rw[jc];exact hj),I_ _ hW,by rw[jc];exact(Rg j W).symm⟩
theorem vi{W H y x:Nat}(hy:y<H)(hx:x<W):y*W+x<H*W:=by have:(y+1)*W<=H*W:=jw W hy;rw[fL,pM]at this;omega
theorem Lg{W y Y x X:Nat}(h:y≠Y)(hx:x<W)(hX:X<W):y*W+x≠Y*W+X/\(Y*W+X<y*W+x->Y*W+W<=y*W+x):=by
 rcases Nat.lt_or_gt_of_ne h with g|g;·have:(y+1)*W<=Y*W:=jw W g;rw[fL,pM]at this;exact⟨by omega,by omega⟩
 ·have:(Y+1)*W<=y*W:=jw W g;rw[fL,pM]at this;exact⟨by omega,by omega⟩
section
variable{C:Nat->Ce} {W H:Nat}
theorem jJ.ok(h:jJ C W H){y x:Nat}(hy:y<H)(hx:x<W):Ok1 C (y*W) (y*W+W) (y*W+x):=h y hy _ (by omega) (by omega)
theorem jJ.next(h:jJ C W H){j:Nat}(hj:j+1<H*W):(C (j+1)).p=2↔(C j).p=1:=by
 constructor;·intro q;obtain⟨y,x,hy,hx,e⟩:=lJ hj;have:=((h.ok hy hx).tail (by rw[<-e];exact q)).2.1;rw[<-e,Ja]at this;exact this
 ·intro q;obtain⟨y,x,hy,hx,e⟩:=lJ (Nat.lt_of_succ_lt hj);have:=((h.ok hy hx).head (by rw[<-e];exact q)).2.1;rw[<-e]at this;exact this
theorem jJ.start(h:jJ C W H){y:Nat}(hy:y<H)(hW:0<W):(C (y*W)).p≠2:=fun q=>by have:=((h.ok hy hW).tail q).1;omega
theorem jJ.head(h:jJ C W H){j:Nat}(hj:j<H*W)(hp:(C j).p=1):j+1<H*W/\C (j+1)=⟨⟨#[]⟩,(C j).f,(C j).g,(C j).b,2⟩:=by
 obtain⟨y,x,hy,hx,rfl⟩:=lJ hj;obtain⟨q1,q2,q3,q4,q5⟩:=(h.ok hy hx).head hp;have q0:x+1<W:=by omega
 have t:=((h.ok hy q0).tail q2).2.2;refine⟨vi hy q0,?_⟩;obtain⟨e,he⟩:∃e,C (y*W+x+1)=e:=⟨_,rfl⟩;have t:(C (y*W+x+1)).t=⟨#[]⟩:=t;rw[he]at q2 q3 q4 q5 t⊢;obtain⟨t,f,g,b,p⟩:=e;simp only at q2 q3 q4 q5 t;rw[q2,q3,q4,q5,t]
theorem jJ.part(h:jJ C W H){j:Nat}(hj:j<H*W):(C j).p=0\/(C j).p=1\/(C j).p=2:=by obtain⟨y,x,hy,hx,rfl⟩:=lJ hj;exact(h.ok hy hx).part
end
def Ei(old new:Nat->Ce)(k j:Nat):Ce:=if j<k then new j else if j=k/\(old j).p=2 then bl (old j)else old j
def kf(new:Nat->Ce)(n i:Nat):Nat:=if i<n/\(new i).p=2 then i+1 else i
def mX(c:Nat->Nat->Ce)(W H:Nat)(F:Nat->Ce):Prop:=∀y x,y<H->x<W->c y x=F (y*W+x)
section
variable{old new:Nat->Ce} {W H:Nat}
theorem T6(hn:jJ new W H){i:Nat}(hi:i<H*W)(h:(new i).p=2):kf new (H*W) (i+1)=kf new (H*W) i:=by
 have e1:kf new (H*W) i=i+1:=if_pos ⟨hi,h⟩;have e2:kf new (H*W) (i+1)=i+1:=if_neg fun q=>by have:=(hn.next q.1).1 q.2;rw[h]at this;exact absurd this (by decide)
 rw[e1,e2]
theorem Pj{i:Nat}(h:(new i).p≠2):kf new (H*W) i=i:=if_neg fun q=>h q.2
theorem Ia(hn:jJ new W H){i:Nat}(hi:i<H*W)(h:(new i).p=1):kf new (H*W) (i+1)=i+2:=if_pos ⟨(hn.head hi h).1,(hn.next (hn.head hi h).1).2 h⟩
theorem Pk(hn:jJ new W H){i:Nat}(hi:i<H*W)(h:(new i).p=0):kf new (H*W) (i+1)=i+1:=if_neg fun q=>by have:=(hn.next q.1).1 q.2;rw[h]at this;exact absurd this (by decide)
theorem gF{k j:Nat}(h:j<k):Ei old new k j=new j:=if_pos h
theorem iT{k j:Nat}(h:k<j):Ei old new k j=old j:=by unfold Ei;rw[if_neg (by omega),if_neg (by omega)]
theorem lE{k:Nat}(h:(old k).p≠2):Ei old new k k=old k:=by unfold Ei;rw[if_neg (by omega),if_neg (fun q=>h q.2)]
theorem Fz{k:Nat}(h:(old k).p=2):Ei old new k k=bl (old k):=by unfold Ei;rw[if_neg (by omega),if_pos ⟨rfl,h⟩]
theorem KZ(ho:jJ old W H)(hn:jJ new W H)(hW:0<W)(hH:0<H)(j:Nat):Ei old new (kf new (H*W) 0) j=old j:=by
 have h0:(new 0).p≠2:=by have:=hn.start hH hW;rwa[I9]at this
 have h1:(old 0).p≠2:=by have:=ho.start hH hW;rwa[I9]at this
 rw[Pj h0];rcases Ri j with e|e;·rw[e];exact lE h1
 ·exact iT e
theorem Um{j:Nat}(hj:j<H*W):Ei old new (kf new (H*W) (H*W)) j=new j:=by
 have:kf new (H*W) (H*W)=H*W:=if_neg fun q=>by omega
 rw[this];exact gF hj
theorem Pt(ho:jJ old W H)(hn:jJ new W H){i:Nat}(hi:i<H*W)(h2:(new i).p≠2)(he:new i=old i)(j:Nat)(hj:j<H*W):Ei old new (kf new (H*W) (i+1)) j=Ei old new (kf new (H*W) i) j:=by
 rw[Pj h2];have h2o:(old i).p≠2:=he▸h2;have ei:Ei old new i i=new i:=(lE h2o).trans he.symm;rcases hn.part hi with h|h|h
 ·rw[Pk hn hi h];rcases Jb j i with g|g|g;·rw[gF g,gF (by omega)]
  ·subst g;rw[ei,gF (by omega)]
  ·rw[iT g];by_cases e:j=i+1;·subst e;refine lE fun q=>?_;have:=(ho.next hj).1 q;rw[<-he,h]at this;exact absurd this (by decide)
   ·exact iT (by omega)
 ·rw[Ia hn hi h];rcases Jb j i with g|g|g;·rw[gF g,gF (by omega)]
  ·subst g;rw[ei,gF (by omega)]
  ·rw[iT g];by_cases e:j=i+1;·subst e;rw[gF (by omega),(hn.head hi h).2,(ho.head hi (he▸h)).2,he]
   ·by_cases e2:j=i+2;·subst e2;refine lE fun q=>?_;have:=(ho.next hj).1 q;rw[(ho.head hi (he▸h)).2]at this;have this:(2:Int)=1:=this;exact absurd this (by decide)
    ·exact iT (by omega)
 ·exact absurd h h2
theorem Un(ho:jJ old W H)(hn:jJ new W H){c:Nat->Nat->Ce}{Y X:Nat}(hY:Y<H)(hX:X<W)(h2:(new (Y*W+X)).p≠2)(hc:mX c W H (Ei old new (kf new (H*W) (Y*W+X)))):
 mX (fill c X (X+((new (Y*W+X)).p+1).toNat) Y (Y+1) (xB X ((new (Y*W+X)).p+1) (new (Y*W+X)).t (new (Y*W+X)).f (new (Y*W+X)).g (new (Y*W+X)).b)) W H (Ei old new (kf new (H*W) (Y*W+X+1))):=by
 have hi:Y*W+X<H*W:=vi hY hX;obtain⟨i,Wo⟩:∃i,Y*W+X=i:=⟨_,rfl⟩;rw[Wo]at h2 hc hi⊢;rw[Pj h2]at hc;obtain⟨n,L7,YB,OC,hnW,hg⟩:∃n,((new i).p+1).toNat=n/\(n=1\/n=2)/\kf new (H*W) (i+1)=i+n/\X+n<=W/\∀x,X<=x->x<X+n->xB X ((new i).p+1) (new i).t (new i).f (new i).g (new i).b x=new (Y*W+x):=by
  rcases hn.part hi with h|h|h
  ·refine⟨1,by rw[h];rfl,.inl rfl,Pk hn hi h,hX,fun x h1 h3=>?_⟩;obtain rfl:x=X:=by omega
   unfold xB;rw[if_neg (by rw[h];decide),Wo];obtain⟨e,he⟩:∃e,new i=e:=⟨_,rfl⟩;rw[he]at h⊢;obtain⟨t,f,g,b,p⟩:=e;simp only at h;rw[h]
  ·have hd:=hn.head hi h;have ky:X+1<W:=by have q:=((hn.ok hY hX).head (by rw[Wo];exact h)).1;omega
   refine⟨2,by rw[h];rfl,.inr rfl,Ia hn hi h,ky,fun x h1 h3=>?_⟩;unfold xB;rw[if_pos (by rw[h];decide)];by_cases ex:x=X;·subst ex;rw[if_pos rfl,Wo];obtain⟨e,he⟩:∃e,new i=e:=⟨_,rfl⟩;rw[he]at h⊢;obtain⟨t,f,g,b,p⟩:=e;simp only at h;rw[h]
   ·obtain rfl:x=X+1:=by omega
    rw[if_neg ex,<-Nat.add_assoc,Wo,hd.2];rfl
  ·exact absurd h h2
 rw[L7,OC];generalize kM:xB X ((new i).p+1) (new i).t (new i).f (new i).g (new i).b=G at hg⊢;intro y x hy hx;by_cases hyY:y=Y
 ·subst hyY;unfold fill;rw[if_pos ⟨ae _,by omega⟩];by_cases eU:X<=x/\x<X+n;·rw[dQ eU,hg x eU.1 eU.2,gF (by omega)]
  ·unfold span;rw[if_neg eU];have cX:c y X=Ei old new i i:=by rw[hc y X hy hX,Wo]
   have hcX:(c y X).p≠2:=by
    rw[cX];by_cases q:(old i).p=2;·rw[Fz q,SL];decide
    ·rw[lE q];exact q
   rw[if_neg (fun q=>hcX q.2.2)];by_cases hb:x=X+n
   ·subst hb;have hj:i+n<H*W:=by have:=vi (W:=W) hy hx;omega
    have ej:y*W+(X+n)=i+n:=by omega
    have eL:(c y (X+n-1)).p=1↔(old (i+n)).p=2:=by
     rw[hc y (X+n-1) hy (by omega),show y*W+(X+n-1)=i+n-1 by omega];obtain⟨m,rfl⟩:∃m,n=m+1:=⟨n-1,by omega⟩;rw[<-Nat.add_assoc,Ja];rw[<-Nat.add_assoc]at hj;rw[ho.next hj];rcases Ri m with e0|e0
     ·subst e0;rw[vJ];by_cases q:(old i).p=2;·rw[Fz q,SL,q];decide
      ·rw[lE q]
     ·rw[iT (by omega)]
    have cX2:c y (X+n)=old (i+n):=by rw[hc y (X+n) hy hx,ej,iT (by omega)]
    rw[cX2,ej];by_cases q:(old (i+n)).p=2;·rw[if_pos ⟨by omega,rfl,eL.2 q⟩,Fz q]
    ·rw[if_neg (fun z=>q (eL.1 z.2.2)),lE q]
   ·rw[if_neg (fun q=>hb q.2.1),hc y x hy hx];rcases yr x X with g|g;·rw[gF (by omega),gF (by omega)]
    ·rw[iT (by omega),iT (by omega)]
 ·unfold fill;rw[if_neg (by omega),hc y x hy hx];have ho':=Lg (W:=W) hyY hx hX;rw[Wo]at ho';rcases yr (y*W+x) i with g|g;·rw[gF g,gF (by omega)]
  ·have g2:i<y*W+x:=by omega
   have g3:=ho'.2 g2;rw[iT g2];by_cases e:y*W+x=i+n
   ·have hs:(old (y*W+x)).p≠2:=by
     intro q;have q1:=((ho.ok hy hx).tail q);have Aw:0<x:=by omega
     have:Y*W+W=y*W+x:=by omega
     have e2:y*W+x<(y+1)*W:=by rw[fL,pM];omega
     have e3:(Y+1)*W=y*W+x:=by rw[fL,pM];exact this
     have e4:y*W<(Y+1)*W:=by omega
     have e5:(Y+1)*W<(y+1)*W:=by omega
     have:=Xd e4;have:=Xd e5;omega
    rw[<-e];exact(lE hs).symm
   ·exact(iT (by omega)).symm
end
