import Derived.Test.YtadhgppeafpdgaaGreatDoorQ32
import Derived.Lib.ItoaNum
import Derived.Lib.Join
set_option linter.all false
set_option maxRecDepth 100000
set_option maxHeartbeats 16000000
namespace Go.Proofs.YtadhgppeafpdgaaGreatDoor
def xu(n:Int):List UInt8:=Lib.decDigits n.toNat
def sE(ns:List Int)(c:UInt8):List UInt8:=27::91::(Lib.join (ns.map xu) [59]++[c])
def cU(ns:List Int):Nat->Int:=fun j=>ns.getD j 0
theorem ui(ps:List Int):cU (ps++[0])=cU ps:=by
 funext j;unfold cU;rw[ia,ia];by_cases h:j<ps.length;·rw[vG h]
 ·rw[yg (by omega),vL (l:=ps) (by omega)];by_cases h2:j-ps.length=0;·rw[h2];rfl
  ·rw[vL (by simp;omega)]
theorem Kl(ps:List Int)(v v':Int):fZ (cU (ps++[v])) ps.length v'=cU (ps++[v']):=by
 funext j;unfold fZ cU;rw[ia,ia];by_cases h:j=ps.length;·rw[if_pos h,h,yg (ae _)];simp
 ·rw[if_neg h];by_cases h2:j<ps.length;·rw[vG h2,vG h2]
  ·rw[vL (by simp;omega),vL (by simp;omega)]
theorem Oc(ps:List Int)(v:Int):cU (ps++[v]) ps.length=v:=by unfold cU;rw[ia,yg (ae _)];simp
theorem Zr(d:Nat)(h:d<10):(UInt8.ofNat (48+d)).toNat=48+d:=by rw[UInt8.toNat_ofNat'];omega
theorem IA(s:Tm)(ps:List Int)(v:Int)(d:Nat)(hd:d<10):stepT s (UInt8.ofNat (48+d)) (.wth (cU (ps++[v])) (ps.length:Int))=(s,.wth (cU (ps++[min (v*10+(d:Int)) 999999])) (ps.length:Int)):=by show jH s (cU (ps++[v])) ((ps.length:Int)).toNat ((UInt8.ofNat (48+d)).toNat:Int)=_;rw[Zr d hd,lW];unfold jH;rw[if_pos (by omega),Oc,Kl,show((48+d:Nat):Int)-48=(d:Int)by omega]
theorem Dy(s:Tm)(ps:List Int):∀(n:Nat),n<=999999->runT (s,.wth (cU (ps++[0])) (ps.length:Int)) (Lib.decDigits n)=(s,.wth (cU (ps++[(n:Int)])) (ps.length:Int)):=by
 intro n;induction n using Nat.strongRecOn with
 |_ n ih=>
  intro hn;rw[Lib.decDigits];by_cases h:n<10;·rw[dif_pos h];show stepT s (UInt8.ofNat (48+n)) (.wth (cU (ps++[0])) (ps.length:Int))=_;rw[IA s ps 0 n h,show min ((0:Int)*10+(n:Int)) 999999=(n:Int)by omega]
  ·rw[dif_neg h,jt,ih (n/10) (by omega) (by omega)];show stepT s (UInt8.ofNat (48+n %10)) (.wth (cU (ps++[((n/10:Nat):Int)])) (ps.length:Int))=_;rw[IA s ps _ (n %10) (by omega),show min (((n/10:Nat):Int)*10+((n %10:Nat):Int)) 999999=(n:Int)by omega]
theorem Qo(s:Tm)(ps:List Int)(v:Int)(h:ps.length<16):stepT s 59 (.wth (cU (ps++[v])) (ps.length:Int))=(s,.wth (cU (ps++[v]++[0])) (((ps++[v]).length:Nat):Int)):=by show jH s (cU (ps++[v])) ((ps.length:Int)).toNat ((59:UInt8).toNat:Int)=_;rw[lW,ui];unfold jH;rw[show((59:UInt8).toNat:Int)=59 from rfl,if_neg (by omega),if_neg (by omega),if_pos rfl,show min ((ps.length:Int)+1) 16=(((ps++[v]).length:Nat):Int)by rw[aI];simp;omega]
theorem Dz(s:Tm):∀(ns:List Int) (n:Int) (ps:List Int),(∀z∈n::ns,0<=z/\z<=999999)->ps.length+ns.length+1<=16->runT (s,.wth (cU (ps++[0])) (ps.length:Int)) (xu n++Lib.joinTail [59] (ns.map xu))=(s,.wth (cU (ps++n::ns)) ((ps.length+ns.length:Nat):Int))
 |[],n,ps,h,hl=>by have hn:=h n (nj ..);have e:Lib.joinTail [59] (([]:List Int).map xu)=[]:=rfl;rw[e,ik];have:=Dy s ps n.toNat (by omega);rw[show((n.toNat:Nat):Int)=n by omega]at this;exact this
 |m::ns,n,ps,h,hl=>by
  have hn:=h n (nj ..);have e:xu n++Lib.joinTail [59] ((m::ns).map xu)=xu n++(59::(xu m++Lib.joinTail [59] (ns.map xu))):=by unfold Lib.joinTail;simp
  rw[e,jt];have h1:=Dy s ps n.toNat (by omega);rw[show((n.toNat:Nat):Int)=n by omega]at h1;have h2:runT (s,.wth (cU (ps++[0])) (ps.length:Int)) (xu n)=(s,.wth (cU (ps++[n])) (ps.length:Int)):=h1;rw[h2];show runT (stepT s 59 (.wth (cU (ps++[n])) (ps.length:Int))) (xu m++Lib.joinTail [59] (ns.map xu))=_;rw[Qo s ps n (by omega)];have h3:=Dz s ns m (ps++[n]) (fun z hz=>h z (yf _ hz)) (by rw[aI];simp only[cP,fh]at hl⊢;omega);rw[h3];have e2:ps++[n]++m::ns=ps++n::m::ns:=by simp
  have e3:(ps++[n]).length+ns.length=ps.length+(m::ns).length:=by simp;omega
  rw[e2,e3]
theorem IC(s:Tm)(n:Int)(ns:List Int)(c:UInt8)(hc:64<=c.toNat/\c.toNat<=126)(h:∀z∈n::ns,0<=z/\z<=999999)(hl:ns.length+1<=16):runT (s,.out) (sE (n::ns) c)=(ff {s with r:=clr s.r} c.toNat (cU (n::ns)) (ns.length:Int),.out):=by
 unfold sE;have e:Lib.join ((n::ns).map xu) [59]=xu n++Lib.joinTail [59] (ns.map xu):=Lib.join_cons _ _ _;rw[e];have z:cU ([]++[0])=fun _=>(0:Int):=by rw[ui];funext j;rfl
 have h2:=Dz {s with r:=clr s.r} ns n [] h (by simp;omega);rw[z]at h2;show runT (stepT (stepT s 27 .out).1 91 (stepT s 27 .out).2) ((xu n++Lib.joinTail [59] (ns.map xu))++[c])=_;have e1:stepT s 27 .out=({s with r:=clr s.r},.esc):=rfl;have e2:stepT {s with r:=clr s.r} 91 .esc=({s with r:=clr s.r},.wth (fun _=>0) 0):=rfl;rw[e1,e2,jt];have h3:runT ({s with r:=clr s.r},.wth (fun _=>0) 0) (xu n++Lib.joinTail [59] (ns.map xu))=({s with r:=clr s.r},.wth (cU (n::ns)) ((0+ns.length:Nat):Int)):=h2;rw[h3];show jH _ _ _ _=_;rw[lW,cB];unfold jH;rw[if_neg (by omega),if_neg (by omega),if_neg (by omega),if_pos (by omega)]
theorem Kk(ns:List Int)(n:Int)(h:ns.length+1<=16):Md (cU (n::ns)) (tV (ns.length:Int))=n::ns:=by
 have e:tV (ns.length:Int)=ns.length+1:=by unfold tV;omega
 rw[e];unfold Md cU;apply IV;intro j;by_cases hj:j<ns.length+1;·rw[vK,List.getElem?_range hj];show some ((n::ns).getD j 0)=_;rw[ia,di (by simpa using hj)];rfl
 ·rw[vL (by simp;omega),vL (by simp;omega)]
theorem Li(s:Tm)(n:Int)(ns:List Int)(h:∀z∈n::ns,0<=z/\z<=999999)(hl:ns.length+1<=16):runT (s,.out) (sE (n::ns) 109)=({s with r:={clr s.r with f:=yN (n::ns) s.r.f,g:=yO (n::ns) s.r.g,b:=yM (n::ns) s.r.b}},.out):=by rw[IC s n ns 109 (by decide) h hl];have e:((109:UInt8).toNat:Int)=109:=rfl;rw[e];unfold ff;rw[if_neg (by decide),if_neg (by decide),if_pos rfl,Kk ns n hl];rfl
theorem run_move(s:Tm)(i j:Nat)(hi:i<s.H)(hj:j<s.W)(hW:s.W<=400)(hH:s.H<=400):runT (s,.out) (sE [(i:Int)+1,(j:Int)+1] 72)=({s with r:={clr s.r with x:=j,y:=i}},.out):=by
 rw[IC s _ _ 72 (by decide) (fun z hz=>by
  rcases ja.1 hz with rfl|hz;·omega
  ·rw[pI]at hz;omega) (by simp)];have e:((72:UInt8).toNat:Int)=72:=rfl;rw[e];unfold ff;rw[if_pos rfl];have l0:cU [(i:Int)+1,(j:Int)+1] 0=(i:Int)+1:=rfl;have l1:cU [(i:Int)+1,(j:Int)+1] 1=(j:Int)+1:=rfl;rw[l0,l1];have ex:min (max ((j:Int)+1) 1) (s.W:Int)-1=(j:Int):=by omega
 have ey:min (max ((i:Int)+1) 1) (s.H:Int)-1=(i:Int):=by omega
 show((_:Tm),St.out)=_;rw[ex,ey]
structure LP where
 a:Int
 f:Int
 g:Int
 b:Int
abbrev Kd:=Int->Int->Int->Int->Int->Int->List Int
def gn(f g b:Int):Prop:=kn f=f/\kn g=g/\bo b=b
structure AR(K:Kd):Prop where
 no:∀{f g b f2 g2 b2},gn f g b->gn f2 g2 b2->K f g b f2 g2 b2=[]->f=f2/\g=g2/\b=b2
 few:∀{f g b f2 g2 b2},(K f g b f2 g2 b2).length<=16
 small:∀{f g b f2 g2 b2},gn f g b->gn f2 g2 b2->∀z∈K f g b f2 g2 b2,0<=z/\z<=999999
 turn:∀{f g b f2 g2 b2},gn f g b->gn f2 g2 b2->K f g b f2 g2 b2≠[]->yN (K f g b f2 g2 b2) f=f2/\yO (K f g b f2 g2 b2) g=g2/\yM (K f g b f2 g2 b2) b=b2
def J6(ns:List Int):List UInt8:=if ns=[]then[]else sE ns 109
def wO(W:Nat)(a:Int)(i:Nat):List UInt8:=if(i:Int)≠a\/i %W=0 then sE [((i/W:Nat):Int)+1,((i %W:Nat):Int)+1] 72 else[]
def EG(K:Kd)(W:Nat)(p:LP)(i:Nat)(e:Ce):List UInt8:=wO W p.a i++(J6 (K p.f p.g p.b e.f e.g e.b)++e.t.data.toList)
def XI(i:Nat)(e:Ce):LP:=⟨(i:Int)+(e.p+1),e.f,e.g,e.b⟩
instance zjz:DecidableEq Ce:=fun a b=>if h:a.t=b.t/\a.f=b.f/\a.g=b.g/\a.b=b.b/\a.p=b.p then .isTrue (by obtain⟨h1,h2,h3,h4,h5⟩:=h;cases a;cases b;simp only at h1 h2 h3 h4 h5;subst h1;subst h2;subst h3;subst h4;subst h5;rfl)else .isFalse (fun e=>by subst e;exact h ⟨rfl,rfl,rfl,rfl,rfl⟩)
def bE(K:Kd)(W:Nat)(old new:Nat->Ce)(p:LP):Nat->LP×List UInt8
 |0=>(p,[])
 |i+1=>if new i≠old i/\(new i).p≠2 then(XI i (new i),(bE K W old new p i).2++EG K W (bE K W old new p i).1 i (new i))else bE K W old new p i
theorem lK(p:Tm×St)(a b:List UInt8):runT p (a++b)=runT (runT p a) b:=by
 induction a generalizing p with
 |nil=>rfl
 |cons x a ih=>exact ih _
structure tA(W:Nat)(t:Tm)(p:LP):Prop where
 f:t.r.f=p.f
 g:t.r.g=p.g
 b:t.r.b=p.b
 ok:gn p.f p.g p.b
 at_:∀j:Nat,p.a=j->j %W≠0->t.r.x=((j %W:Nat):Int)/\t.r.y=((j/W:Nat):Int)
section
variable{K:Kd} {t:Tm} {p:LP}
theorem Hh(hK:AR K){f2 g2 b2:Int}(ho:gn p.f p.g p.b)(h2:gn f2 g2 b2)(hf:t.r.f=p.f)(hg:t.r.g=p.g)(hb:t.r.b=p.b):∃t',runT (t,.out) (J6 (K p.f p.g p.b f2 g2 b2))=(t',.out)/\t'.W=t.W/\t'.H=t.H/\t'.c=t.c/\t'.r.x=t.r.x/\t'.r.y=t.r.y/\t'.r.f=f2/\t'.r.g=g2/\t'.r.b=b2:=by
 obtain⟨ns,hns⟩:∃ns,K p.f p.g p.b f2 g2 b2=ns:=⟨_,rfl⟩;have hl:=hK.few (f:=p.f) (g:=p.g) (b:=p.b) (f2:=f2) (g2:=g2) (b2:=b2);have hs:=hK.small ho h2;have ht:=hK.turn ho h2;have hn:=hK.no ho h2;rw[hns]at hl hs ht hn⊢;unfold J6;by_cases e:ns=[];·rw[if_pos e];obtain⟨e1,e2,e3⟩:=hn e;exact⟨t,rfl,rfl,rfl,rfl,rfl,rfl,hf.trans e1,hg.trans e2,hb.trans e3⟩
 ·rw[if_neg e];obtain⟨t1,t2,t3⟩:=ht e;obtain⟨n,ms,rfl⟩:=Xe e;rw[Li t n ms hs (by simpa using hl)];exact⟨_,rfl,rfl,rfl,rfl,rfl,rfl,by show yN (n::ms) t.r.f=f2;rw[hf];exact t1,by show yO (n::ms) t.r.g=g2;rw[hg];exact t2,by show yM (n::ms) t.r.b=b2;rw[hb];exact t3⟩
theorem Us{W H Y X:Nat}(hW:t.W=W)(hH:t.H=H)(vR:W<=400)(Tj:H<=400)(hY:Y<H)(hX:X<W)(hp:tA W t p):∃t',runT (t,.out) (wO W p.a (Y*W+X))=(t',.out)/\t'.W=t.W/\t'.H=t.H/\t'.c=t.c/\t'.r.x=X/\t'.r.y=Y/\t'.r.f=t.r.f/\t'.r.g=t.r.g/\t'.r.b=t.r.b:=by
 have e1:(Y*W+X) %W=X:=by rw[vF,Rm,I' hX]
 have e2:(Y*W+X)/W=Y:=by rw[vF,Rn _ _ (by omega),yi hX,cB]
 unfold wO;by_cases h:((Y*W+X:Nat):Int)≠p.a\/(Y*W+X) %W=0;·rw[if_pos h,e1,e2,run_move t Y X (by omega) (by omega) (by omega) (by omega)];exact⟨_,rfl,rfl,rfl,rfl,rfl,rfl,rfl,rfl,rfl⟩
 ·rw[if_neg h];have h1:((Y*W+X:Nat):Int)=p.a:=Jg.1 fun q=>h (.inl q);have h2:(Y*W+X) %W≠0:=fun q=>h (.inr q);have:=hp.at_ _ h1.symm h2;rw[e1,e2]at this;exact⟨t,rfl,rfl,rfl,rfl,this.1,this.2,rfl,rfl,rfl⟩
theorem SR(hK:AR K){W H Y X:Nat}(hW:t.W=W)(hH:t.H=H)(vR:1<=W/\W<=400)(Tj:1<=H/\H<=400)(hY:Y<H)(hX:X<W)(hp:tA W t p){new:Nat->Ce}(hn:jJ new W H)(h2:(new (Y*W+X)).p≠2):
 ∃t',runT (t,.out) (EG K W p (Y*W+X) (new (Y*W+X)))=(t',.out)/\t'.W=W/\t'.H=H/\t'.c=fill t.c X (X+((new (Y*W+X)).p+1).toNat) Y (Y+1) (xB X ((new (Y*W+X)).p+1) (new (Y*W+X)).t (new (Y*W+X)).f (new (Y*W+X)).g (new (Y*W+X)).b)/\tA W t' (XI (Y*W+X) (new (Y*W+X))):=by
 have Aq:=hn.ok hY hX;obtain⟨i,hi⟩:∃i,Y*W+X=i:=⟨_,rfl⟩;obtain⟨t1,r1,w1,q1,c1,x1,y1,f1,g1,b1⟩:=Us hW hH vR.2 Tj.2 hY hX hp;have hs:gn (new i).f (new i).g (new i).b:=by rw[<-hi];exact Aq.sty
 obtain⟨t2,r2,w2,q2,c2,x2,y2,f2,g2,b2⟩:=Hh (t:=t1) (p:=p) hK hp.ok hs (f1.trans hp.f) (g1.trans hp.g) (b1.trans hp.b);have zch:=Aq.text h2;rw[hi]at zch h2 r1⊢;have YB:(new i).p+1=1\/(new i).p+1=2:=by
  rcases Aq.part with h|h|h<;>rw[hi]at h;·exact .inl (by omega)
  ·exact .inr (by omega)
  ·exact absurd h h2
 obtain⟨bb,ms,el,hwb,hwm,aO,Hq⟩:=xq YB zch;have hXW:(X:Int)+((new i).p+1)<=(t2.W:Int):=by
  rw[w2,w1,hW];rcases Aq.part with h|h|h<;>rw[hi]at h;·rw[h];omega
  ·have:=(Aq.head (by rw[hi];exact h)).1;rw[h];omega
  ·exact absurd h h2
 have r3:runT (t2,.out) (new i).t.data.toList=(sd t2 X Y (bb::ms) ((new i).p+1),.out):=by rw[el,xY _ _ Hq,Nz (t:=t2) (by rw[w2,w1,hW];exact vR) (by rw[q2,q1,hH];exact Tj) (x2.trans x1) (y2.trans y1) (by rw[q2,q1,hH];exact hY) hwb YB hXW ms hwm aO]
 have et:(⟨(enc (bb::ms)).toArray⟩:ByteArray)=(new i).t:=by apply ju;rw[<-el]
 refine⟨sd t2 X Y (bb::ms) ((new i).p+1),?_,?_,?_,?_,?_⟩;·unfold EG;rw[lK,r1,lK,r2,r3]
 ·exact w2.trans (w1.trans hW)
 ·exact q2.trans (q1.trans hH)
 ·unfold sd;simp only;rw[et,f2,g2,b2,hs.1,hs.2.1,hs.2.2,c2,c1]
 ·refine⟨f2,g2,b2,hs,fun j hj h0=>?_⟩;have Ht:(i:Int)+((new i).p+1)=(j:Int):=hj;obtain⟨n,L7⟩:∃n:Nat,(new i).p+1=(n:Int):=⟨((new i).p+1).toNat,by omega⟩;rw[L7]at Ht hXW;have hXn:X+n<=W:=by rw[w2,w1,hW]at hXW;omega
  have ej:j=Y*W+(X+n):=by omega
  have zbl:X+n<W:=by
   rcases yr (X+n) W with g|g;·exact g
   ·exfalso;apply h0;rw[ej,show X+n=W by omega,Nat.mul_add_mod_self_right]<;>simp
  show(X:Int)+((new i).p+1)=_/\(Y:Int)=_;rw[L7,ej];have e1:(Y*W+(X+n)) %W=X+n:=by rw[vF,Rm,I' zbl]
  have e2:(Y*W+(X+n))/W=Y:=by rw[vF,Rn _ _ (by omega),yi zbl,cB]
  rw[e1,e2];exact⟨by omega,rfl⟩
theorem Vp(hK:AR K){W H:Nat}(vR:1<=W/\W<=400)(Tj:1<=H/\H<=400){old new:Nat->Ce}(ho:jJ old W H)(hn:jJ new W H){t:Tm}(hW:t.W=W)(hH:t.H=H)(hp:tA W t p)(hc:mX t.c W H old):
 ∀i,i<=H*W->∃t',runT (t,.out) (bE K W old new p i).2=(t',.out)/\t'.W=W/\t'.H=H/\mX t'.c W H (Ei old new (kf new (H*W) i))/\tA W t' (bE K W old new p i).1:=by
 intro i;induction i with
 |zero=>exact fun _=>⟨t,rfl,hW,hH,fun y x hy hx=>by rw[KZ ho hn (by omega) (by omega)];exact hc y x hy hx,hp⟩
 |succ i ih=>
  intro hi;obtain⟨t1,r1,w1,q1,s1,p1⟩:=ih (by omega);unfold bE;by_cases h:new i≠old i/\(new i).p≠2;·rw[if_pos h];obtain⟨Y,X,hY,hX,rfl⟩:=lJ (W:=W) (H:=H) (j:=i) (by omega);obtain⟨t2,r2,w2,q2,c2,p2⟩:=SR hK w1 q1 vR Tj hY hX p1 hn h.2;refine⟨t2,by rw[lK,r1,r2],w2,q2,?_,p2⟩;rw[c2];exact Un ho hn hY hX h.2 s1
  ·rw[if_neg h];refine⟨t1,r1,w1,q1,fun y x hy hx=>?_,p1⟩;rw[s1 y x hy hx];by_cases h2:(new i).p=2;·rw[T6 hn (by omega) h2]
   ·exact(Pt ho hn (by omega) h2 (Jg.1 fun q=>h ⟨q,h2⟩) _ (vi hy hx)).symm
def jB(K:Kd)(W n:Nat)(old new:Nat->Ce)(p:LP):List UInt8:=(bE K W old new p n).2++J6 (K (bE K W old new p n).1.f (bE K W old new p n).1.g (bE K W old new p n).1.b 0 0 0)
theorem SG(hK:AR K){W H:Nat}(vR:1<=W/\W<=400)(Tj:1<=H/\H<=400){old new:Nat->Ce}(ho:jJ old W H)(hn:jJ new W H){t:Tm}(hW:t.W=W)(hH:t.H=H)(hp:tA W t p)(hc:mX t.c W H old):
 ∃t',runT (t,.out) (jB K W (H*W) old new p)=(t',.out)/\t'.W=W/\t'.H=H/\mX t'.c W H new/\t'.r.f=0/\t'.r.g=0/\t'.r.b=0:=by obtain⟨t1,r1,w1,q1,s1,p1⟩:=Vp hK vR Tj ho hn hW hH hp hc (H*W) (ae _);obtain⟨t2,r2,w2,q2,c2,x2,y2,f2,g2,b2⟩:=Hh (t:=t1) (p:=(bE K W old new p (H*W)).1) (f2:=0) (g2:=0) (b2:=0) hK p1.ok ⟨rfl,rfl,rfl⟩ p1.f p1.g p1.b;refine⟨t2,by unfold jB;rw[lK,r1,r2],w2.trans w1,q2.trans q1,fun y x hy hx=>?_,f2,g2,b2⟩;rw[c2,s1 y x hy hx];exact Um (vi hy hx)
end
