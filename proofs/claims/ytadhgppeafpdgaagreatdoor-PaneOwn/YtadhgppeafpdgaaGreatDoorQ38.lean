import Derived.Test.YtadhgppeafpdgaaGreatDoorQ34
import Derived.Test.YtadhgppeafpdgaaGreatDoorQ37
set_option linter.all false
set_option maxRecDepth 100000
set_option maxHeartbeats 16000000
namespace Go.Proofs.YtadhgppeafpdgaaGreatDoor
open Go.RowKit Go.Sort
theorem cL.style{Q:World}{B b:Nat}{p v:Value}{W a f g d:Int}{l:List UInt8}(h:cL Q B b p v W a f g d l):Q.cell? (aq b 4)=some (.int .i64 f)/\Q.cell? (aq b 5)=some (.int .i64 g)/\Q.cell? (aq b 6)=some (.int .i64 d):=⟨h.cell (k:=4) rfl,h.cell (k:=5) rfl,h.cell (k:=6) rfl⟩
theorem u_(B b:Nat)(p v:Value)(W a f g d:Int)(l:List UInt8)(f2 g2 d2:Int)(w:World)(h:cL w B b p v W a f g d l)(aO:l.length<=1099511627776)(hBw:B<=w.heap.size)(hs:gn f g d)(jD:gn f2 g2 d2):
 Calls Tryz.prog 69 #[.pointer (some (aq b 0)),.agg #[.int .i64 f2,.int .i64 g2,.int .i64 d2]] w fun e w'=>e=Rw (.tuple #[])/\Hid (aU w w' B b W a f2 g2 d2 (l++Hb (cJ f g d f2 g2 d2))):=by
 have hlt:b<w.heap.size:=h.lt;obtain⟨S,hS⟩:∃z,w.heap.size=z:=⟨_,rfl⟩;obtain⟨W0,bc⟩:∃z,w.alloc (.cells #[.int .i64 f2,.int .i64 g2,.int .i64 d2] 45)=z:=⟨_,rfl⟩;have G0:Hid (Gr w W0):=by rw[<-bc];exact(Gr.refl w).alloc _
 have N0:Hid (W0.heap[S]?=some (.cells #[.int .i64 f2,.int .i64 g2,.int .i64 d2] 45 (0,0))):=by rw[<-bc,<-hS];exact qz w _
 have n0:W0.cell? (aq S 0)=some (.int .i64 f2):=by rw[Lib.cell_of_heap N0.out];rfl
 have n1:W0.cell? (aq S 1)=some (.int .i64 g2):=by rw[Lib.cell_of_heap N0.out];rfl
 have n2:W0.cell? (aq S 2)=some (.int .i64 d2):=by rw[Lib.cell_of_heap N0.out];rfl
 have HP:Hid (cL W0 B b p v W a f g d l):=h.up G0.out.below;have c4:=HP.out.style.1;have c5:=HP.out.style.2.1;have c6:=HP.out.style.2.2;have oI:B<=W0.heap.size:=aH hBw G0.out.size;obtain⟨K,hK⟩:∃k,Hb (cJ f g d f2 g2 d2)=k:=⟨_,rfl⟩;have hKl:K.length<=1000:=by
  rw[<-hK];unfold Hb;split;·decide
  ·rename_i bj;have hsm:=qB (x:=f) (y:=g) (z:=d) (z2:=d2) (x2:=f2) (y2:=g2) (jD.1▸Ck f2) (jD.2.1▸Ck g2);have:=(Qv hsm bj (zJ f g d f2 g2 d2)).2;omega
 have CD:Hid (∀w',Gr W0 w'->Calls Tryz.prog 127 #[.agg #[.int .i64 f,.int .i64 g,.int .i64 d],.agg #[.int .i64 f2,.int .i64 g2,.int .i64 d2]] w' fun e w2=>e=Rw (.string ⟨K.toArray⟩)/\Hid (Bt W0 w2)):=fun w' hg=>by have:=JV f g d f2 g2 d2 w';unfold sv at this;rw[hs.1,hs.2.1,hs.2.2,jD.1,jD.2.1,jD.2.2,hK]at this;exact this.mono fun e w2 q=>⟨q.1,hg.below.trans (q.2.mono hg.size)⟩
 have PW:Hid (∀w',Bt W0 w'->Calls Tryz.prog 42 #[.pointer (some (aq b 0)),.string ⟨K.toArray⟩] w' fun e w2=>e=Rw (.tuple #[.int .i64 (⟨K.toArray⟩:ByteArray).size,.nilIface])/\Hid (aU W0 w2 B b W a f g d (l++K))):=fun w' hb=>(eM B b p v W a f g d l ⟨K.toArray⟩ w' (HP.out.up hb) (by show l.length+K.toArray.size<=_;simp;omega) (aH oI hb.size)).mono fun e w2 ⟨he,v',h1,h2,h3⟩=>⟨he,_,v',by simpa using h1,(hb.mono oI).trans h2,(iu hb _ _).trans h3⟩;rw[hK];clear h;go_enter Tryz.func69,Tryz.ntmps69;go_wp2_with fail;go_region_with(first|(go_at_call 127;refine ai (CD.out _ (by first|exact Gr.refl _|exact(Gr.refl _).drew|exact((Gr.refl _).drew).drew)) ?_;rintro e1 w1 ⟨rfl,H1⟩)|(go_at_call 42;refine ai (PW.out _ (by first|exact H1.out|exact H1.out.drew)) ?_;rintro e2 w2 ⟨rfl,HT⟩));all_goals
  have M0:w2.heap[S]?=some (.cells #[.int .i64 f2,.int .i64 g2,.int .i64 d2] 45 (0,0)):=HT.out.block N0.out (by omega) (by decide);have o0:w2.cell? (aq S 0)=some (.int .i64 f2):=by rw[Lib.cell_of_heap M0];rfl
  have o1:w2.cell? (aq S 1)=some (.int .i64 g2):=by rw[Lib.cell_of_heap M0];rfl
  have o2:w2.cell? (aq S 2)=some (.int .i64 d2):=by rw[Lib.cell_of_heap M0];rfl
  have e4:w2.cell? (aq b 4)=some (.int .i64 f):=by obtain⟨p1,v1,fj,_⟩:=HT.out;exact fj.cell (k:=4) rfl
  have e5:w2.cell? (aq b 5)=some (.int .i64 g):=by obtain⟨p1,v1,fj,_⟩:=HT.out;exact fj.cell (k:=5) rfl
  have e6:w2.cell? (aq b 6)=some (.int .i64 d):=by obtain⟨p1,v1,fj,_⟩:=HT.out;exact fj.cell (k:=6) rfl
  have z4:w2.frozen? (aq b 4)=false:=by obtain⟨p1,v1,fj,_⟩:=HT.out;exact fj.fz 4
  have z5:w2.frozen? (aq b 5)=false:=by obtain⟨p1,v1,fj,_⟩:=HT.out;exact fj.fz 5
  have z6:w2.frozen? (aq b 6)=false:=by obtain⟨p1,v1,fj,_⟩:=HT.out;exact fj.fz 6
  clear M0;go_wp2_with fail;go_end0;have X:=(HT.out.start G0.out hBw).sty f2 g2 d2;exact⟨rfl,by first|exact X|exact X.drew|exact X.drew.drew|exact X.drew.drew.drew⟩
theorem tQ(ns:List Int):Hb ns=J6 ns:=rfl
theorem ru{f:Int}(h:kn f=f):0<=f/\f<=8:=h▸Ck f
theorem Nq{f:Int}(h:bo f=f):0<=f/\f<=1:=h▸xo f
theorem LD:AR cJ where
 no:=fun{f g b f2 g2 b2} h1 h2 e=>Jg.1 fun q=>PC q (Nq h2.2.2) e
 few:=fun{f g b f2 g2 b2}=>aH (zJ f g b f2 g2 b2) (by decide)
 small:=fun{f g b f2 g2 b2} h1 h2 z hz=>by have:=qB (x:=f) (y:=g) (z:=b) (z2:=b2) (ru h2.1) (ru h2.2.1) z hz;omega
 turn:=fun{f g b f2 g2 b2} h1 h2 e=>by refine Zo (ru h1.1) (ru h1.2.1) (Nq h1.2.2) (ru h2.1) (ru h2.2.1) (Nq h2.2.2) fun q=>e ?_;obtain⟨rfl,rfl,rfl⟩:=q;unfold cJ;rw[if_pos ⟨rfl,rfl,rfl⟩]
theorem iC(n:Nat)(h:n<1000):(Lib.decDigits n).length<=3:=by
 rw[Lib.decDigits_length];by_cases h1:n<10;·rw[Lib.nDigits_small h1];omega
 ·rw[Lib.nDigits_big h1];by_cases h2:n/10<10;·rw[Lib.nDigits_small h2];omega
  ·rw[Lib.nDigits_big h2,Lib.nDigits_small (show n/10/10<10 by omega)];omega
def K1(a b:List UInt8):List UInt8:=27::91::(a++59::(b++[72]))
theorem FB(Y X:Nat):sE [(Y:Int)+1,(X:Int)+1] 72=K1 (Lib.decDigits (Y+1)) (Lib.decDigits (X+1)):=by
 have e1:((Y:Int)+1).toNat=Y+1:=by omega
 have e2:((X:Int)+1).toNat=X+1:=by omega
 unfold sE K1;simp[xu,Lib.join,List.intercalate,e1,e2]
theorem Ig{V i:Nat}(hV:1<=V/\V<=400)(hi:i<400*V)(a:Int):(wO V a i).length<=10:=by
 have hX:i %V<V:=I_ i (by omega);have hY:i/V<400:=Eb (by rw[jc];exact hi);unfold wO;split;·rw[FB];have h1:=iC (i/V+1) (by omega);have h2:=iC (i %V+1) (by omega);unfold K1;simp;omega
 ·simp
theorem za{f g b f2 g2 b2:Int}(h2:gn f2 g2 b2):(J6 (cJ f g b f2 g2 b2)).length<=15:=by
 rw[<-tQ];unfold Hb;split;·simp
 ·rename_i bj;exact(Qv (qB (ru h2.1) (ru h2.2.1)) bj (zJ ..)).2
def _Q(old new:Nat->Ce):Nat->Nat
 |0=>0
 |i+1=>_Q old new i+if new i≠old i/\(new i).p≠2 then 25+(new i).t.size else 0
section
variable{old new:Nat->Ce} {V n:Nat} {p:LP}
theorem IM(hp:gn p.f p.g p.b)(hn:∀i,i<n->AQ (new i)):∀i,i<=n->gn (bE cJ V old new p i).1.f (bE cJ V old new p i).1.g (bE cJ V old new p i).1.b
 |0,_=>hp
 |i+1,h=>by
  unfold bE;by_cases c:new i≠old i/\(new i).p≠2;·rw[if_pos c];exact hn i (by omega)
  ·rw[if_neg c];exact IM hp hn i (by omega)
theorem QL(hp:-1<=p.a/\p.a<=n+2)(hn:∀i,i<n->(new i).p=0\/(new i).p=1\/(new i).p=2):∀i,i<=n->-1<=(bE cJ V old new p i).1.a/\(bE cJ V old new p i).1.a<=n+2
 |0,_=>hp
 |i+1,h=>by
  unfold bE;by_cases c:new i≠old i/\(new i).p≠2;·rw[if_pos c];have:=hn i (by omega);show-1<=(i:Int)+((new i).p+1)/\(i:Int)+((new i).p+1)<=n+2;omega
  ·rw[if_neg c];exact QL hp hn i (by omega)
theorem Ad(hV:1<=V/\V<=400)(h4:n<=400*V)(hn:∀i,i<n->AQ (new i)):∀i,i<=n->(bE cJ V old new p i).2.length<=_Q old new i
 |0,_=>by simp[bE]
 |i+1,h=>by
  have ih:=Ad hV h4 hn i (by omega);unfold bE _Q;by_cases c:new i≠old i/\(new i).p≠2;·rw[if_pos c,if_pos c];have h1:=Ig hV (i:=i) (by omega) (bE cJ V old new p i).1.a;have h2:=za (f:=(bE cJ V old new p i).1.f) (g:=(bE cJ V old new p i).1.g) (b:=(bE cJ V old new p i).1.b) (f2:=(new i).f) (g2:=(new i).g) (b2:=(new i).b) (hn i (by omega));have h3:(new i).t.data.toList.length=(new i).t.size:=rfl;show List.length (_++_)<=_;unfold EG;rw[aI,aI,aI,h3];omega
  ·rw[if_neg c,if_neg c];exact ih
end
theorem Hi:∀R:List Int,(enc R).length<=4*R.length
 |[]=>by simp[enc]
 |r::R=>by
  have h1:=m4 r;have h2:=Hi R;have:enc (r::R)=Lib.encodeRune r++enc R:=by simp[enc]
  rw[this,aI,cP];omega
theorem Vn{e:Ce}{n:Int}(hn:n=1\/n=2)(h:GL e n):e.t.size<=20:=by obtain⟨b,ms,h1,_,_,h4,_⟩:=xq hn h;have h2:=Hi (b::ms);rw[<-h1,cP]at h2;have h3:e.t.data.toList.length=e.t.size:=rfl;omega
theorem jJ.size{C:Nat->Ce}{W H:Nat}(h:jJ C W H){j:Nat}(hj:j<H*W):(C j).t.size<=20:=by
 obtain⟨y,x,hy,hx,rfl⟩:=lJ hj;have o:=h.ok hy hx;by_cases c:(C (y*W+x)).p=2;·rw[(o.tail c).2.2];decide
 ·exact Vn (by have:=o.part;omega) (o.text c)
theorem jJ.sty{C:Nat->Ce}{W H:Nat}(h:jJ C W H){j:Nat}(hj:j<H*W):AQ (C j):=by obtain⟨y,x,hy,hx,rfl⟩:=lJ hj;exact(h.ok hy hx).sty
theorem Gt{old new:Nat->Ce}{n:Nat}(h:∀i,i<n->(new i).t.size<=20):∀i,i<=n->_Q old new i<=45*i
 |0,_=>by simp[_Q]
 |i+1,hi=>by have ih:=Gt (old:=old) h i (by omega);have:=h i (by omega);unfold _Q;split<;>omega
theorem zO(B b:Nat)(p v:Value)(V:Nat)(a f g d:Int)(l:List UInt8)(i:Nat)(w:World)(h:cL w B b p v (V:Int) a f g d l)(aO:l.length<=1099511627776)(hBw:B<=w.heap.size)(hV:1<=V/\V<=400)(hi:i<400*V)(ht:dC w)(Oy:12<B)(hc:(i:Int)≠a):
 Calls Tryz.prog 68 #[.pointer (some (aq b 0)),.int .i64 (i:Int)] w fun e w'=>e=Rw (.tuple #[])/\Hid (aU w w' B b (V:Int) (i:Int) f g d (l++sE [((i/V:Nat):Int)+1,((i %V:Nat):Int)+1] 72)):=by
 obtain⟨X,hX⟩:∃X,i %V=X:=⟨_,rfl⟩;obtain⟨Y,hY⟩:∃Y,i/V=Y:=⟨_,rfl⟩;have hXV:X<400:=by rw[<-hX];have:=I_ i (show 0<V by omega);omega
 have hYV:Y<400:=by rw[<-hY];exact Eb (by rw[jc];exact hi)
 have c2:w.cell? (aq b 2)=some (.int .i64 (V:Int)):=h.cell (k:=2) rfl;have c3:w.cell? (aq b 3)=some (.int .i64 a):=h.cell (k:=3) rfl;have HP:Hid (cL w B b p v (V:Int) a f g d l):=h;have VK:Hid (∀w',Gr w w'->dC w'):=fun w' hg=>ht.below (B:=w.heap.size) hg.below (by omega);rw[hX,hY];have HS:Hid (sE [(Y:Int)+1,(X:Int)+1] 72=K1 (Lib.decDigits (Y+1)) (Lib.decDigits (X+1))):=FB Y X;have E5:(Lib.decDigits (Y+1)).length<=3:=iC _ (by omega);have Ov:(Lib.decDigits (X+1)).length<=3:=iC _ (by omega);have ty:((Y+1:Nat):Int)=(Y:Int)+1:=by omega
 have tx:((X+1:Nat):Int)=(X:Int)+1:=by omega
 obtain⟨D1,Oh⟩:∃z,Lib.decDigits (Y+1)=z:=⟨_,rfl⟩;obtain⟨D2,Oi⟩:∃z,Lib.decDigits (X+1)=z:=⟨_,rfl⟩;have I1:Hid (∀z w',z=(Y:Int)+1->Gr w w'->Calls Tryz.prog 126 #[.int .i64 z] w' fun e w2=>e=Rw (.string ⟨D1.toArray⟩)/\Hid (Gr w w2)):=fun z w' hz hg=>by subst hz;have:=oR (Y+1) (by omega) w' (VK.out w' hg);rw[ty,Oh]at this;exact this.mono fun e w2 q=>⟨q.1,hg.trans q.2⟩
 have I2:Hid (∀z w',z=(X:Int)+1->Gr w w'->Calls Tryz.prog 126 #[.int .i64 z] w' fun e w2=>e=Rw (.string ⟨D2.toArray⟩)/\Hid (Gr w w2)):=fun z w' hz hg=>by subst hz;have:=oR (X+1) (by omega) w' (VK.out w' hg);rw[tx,Oi]at this;exact this.mono fun e w2 q=>⟨q.1,hg.trans q.2⟩
 have PW:Hid (∀(t:ByteArray) w',Gr w w'->t.data.toList=K1 D1 D2->Calls Tryz.prog 42 #[.pointer (some (aq b 0)),.string t] w' fun e w2=>e=Rw (.tuple #[.int .i64 t.size,.nilIface])/\Hid (aU w w2 B b (V:Int) a f g d (l++K1 D1 D2))):=fun t w' hg ht=>by
  have As:t.size<=100:=by have:t.size=t.data.toList.length:=rfl;rw[this,ht];rw[Oh]at E5;rw[Oi]at Ov;unfold K1;simp;omega
  have:=eM B b p v (V:Int) a f g d l t w' (HP.out.up hg.below) (by omega) (aH hBw hg.size);rw[ht]at this;exact this.mono fun e w2 ⟨he,h1⟩=>⟨he,aU.start hg hBw ⟨_,h1⟩⟩
 rw[Oh,Oi]at HS;have w1:IntKind.i64.wrap ((Y:Int)+1)=(Y:Int)+1:=IntWalk.i64_in _ (by omega);have w2:IntKind.i64.wrap ((X:Int)+1)=(X:Int)+1:=IntWalk.i64_in _ (by omega);have hl1:D1.length<=3:=by rw[<-Oh];exact E5
 have uu:D2.length<=3:=by rw[<-Oi];exact Ov
 have j1:¬9223372036854775807<2+D1.length:=by omega
 have j2:¬9223372036854775807<2+D1.length+1:=by omega
 have j3:¬9223372036854775807<2+D1.length+1+D2.length:=by omega
 have j4:¬9223372036854775807<2+D1.length+1+D2.length+1:=by omega
 clear hl1 uu;have hV0:¬V=0:=by omega
 have On:¬(V:Int)=0:=by omega
 have bj:((i:Int)!=a)=true:=by simpa using hc
 have wy:IntKind.i64.wrap (Y:Int)=(Y:Int):=IntWalk.i64_in _ (by omega);have ux:(i:Int) %(V:Int)=(X:Int):=by rw[<-hX];exact(Ro i V).symm
 have RX:(i:Int)/(V:Int)=(Y:Int):=by rw[<-hY];exact(Int.natCast_ediv i V).symm
 have hQ:IntKind.i64.wrap (IntKind.i64.wrap ((i:Int)/(V:Int))+1)=(Y:Int)+1:=by rw[RX,wy,w1]
 have hR:IntKind.i64.wrap ((i:Int).tmod (V:Int)+1)=(X:Int)+1:=by rw[Ef (Jh i),ux,w2]
 clear h ht aO hBw hX hY hi E5 Ov ty tx Oh Oi RX ux wy w1 w2 hc hV Oy;go_enter Tryz.func68,Tryz.ntmps68;go_wp2_with fail;go_region_held(fun W_=>W_.cell? (aq b 2)=some (.int .i64 (V:Int))) (go_keep) (first|(go_at_call 126;first|(with_reducible refine ai (I1.out _ _ (by with_reducible rfl) (by first|exact Gr.refl _|exact(Gr.refl _).drew|assumption|exact rR (by assumption)|exact Gr.drew (rR (by assumption)))) ?_;rintro e1 u1 ⟨rfl,J1⟩;have c2:u1.cell? (aq b 2)=some (.int .i64 (V:Int)):=(HP.out.up J1.out.below).cell (k:=2) rfl)|(with_reducible refine ai (I2.out _ _ (by with_reducible rfl) (by first|exact J1.out|exact J1.out.drew)) ?_;rintro e2 u2 ⟨rfl,J2⟩;have c2:u2.cell? (aq b 2)=some (.int .i64 (V:Int)):=(HP.out.up J2.out.below).cell (k:=2) rfl))|(go_at_call 42;refine ai (PW.out _ _ (by first|exact J2.out|exact J2.out.drew) (by simp[K1])) ?_;rintro e3 u3 ⟨rfl,HT⟩;have c2:u3.cell? (aq b 2)=some (.int .i64 (V:Int)):=(by obtain⟨p1,v1,fj,_⟩:=HT.out;exact fj.cell (k:=2) rfl)));all_goals
  have z3:u3.frozen? (aq b 3)=false:=by obtain⟨p1,v1,fj,_⟩:=HT.out;exact fj.fz 3
  have k3:u3.cell? (aq b 3)=some (.int .i64 a):=by obtain⟨p1,v1,fj,_⟩:=HT.out;exact fj.cell (k:=3) rfl
  go_wp2_with fail;go_end0;have X:=HT.out.at3 (i:Int);rw[<-HS.out]at X;exact⟨rfl,by first|exact X|exact X.drew|exact X.drew.drew⟩
theorem Dh(B b:Nat)(p v:Value)(V:Nat)(a f g d:Int)(l:List UInt8)(i:Nat)(w:World)(h:cL w B b p v (V:Int) a f g d l)(aO:l.length<=1099511627776)(hBw:B<=w.heap.size)(hV:1<=V/\V<=400)(hi:i<400*V)(ht:dC w)(Oy:12<B)(hc:(i:Int)=a)(dJ:i %V=0):
 Calls Tryz.prog 68 #[.pointer (some (aq b 0)),.int .i64 (i:Int)] w fun e w'=>e=Rw (.tuple #[])/\Hid (aU w w' B b (V:Int) (i:Int) f g d (l++sE [((i/V:Nat):Int)+1,((i %V:Nat):Int)+1] 72)):=by
 obtain⟨X,hX⟩:∃X,i %V=X:=⟨_,rfl⟩;obtain rfl:0=X:=dJ.symm.trans hX;obtain⟨Y,hY⟩:∃Y,i/V=Y:=⟨_,rfl⟩;have hXV:0<400:=by decide
 have hYV:Y<400:=by rw[<-hY];exact Eb (by rw[jc];exact hi)
 have c2:w.cell? (aq b 2)=some (.int .i64 (V:Int)):=h.cell (k:=2) rfl;have c3:w.cell? (aq b 3)=some (.int .i64 a):=h.cell (k:=3) rfl;have HP:Hid (cL w B b p v (V:Int) a f g d l):=h;have VK:Hid (∀w',Gr w w'->dC w'):=fun w' hg=>ht.below (B:=w.heap.size) hg.below (by omega);rw[hX,hY];have HS:Hid (sE [(Y:Int)+1,((0:Nat):Int)+1] 72=K1 (Lib.decDigits (Y+1)) (Lib.decDigits (0+1))):=FB Y 0;have E5:(Lib.decDigits (Y+1)).length<=3:=iC _ (by omega);have Ov:(Lib.decDigits (0+1)).length<=3:=iC _ (by omega);have ty:((Y+1:Nat):Int)=(Y:Int)+1:=by omega
 have tx:((0+1:Nat):Int)=((0:Nat):Int)+1:=by omega
 obtain⟨D1,Oh⟩:∃z,Lib.decDigits (Y+1)=z:=⟨_,rfl⟩;obtain⟨D2,Oi⟩:∃z,Lib.decDigits (0+1)=z:=⟨_,rfl⟩;have I1:Hid (∀z w',z=(Y:Int)+1->Gr w w'->Calls Tryz.prog 126 #[.int .i64 z] w' fun e w2=>e=Rw (.string ⟨D1.toArray⟩)/\Hid (Gr w w2)):=fun z w' hz hg=>by subst hz;have:=oR (Y+1) (by omega) w' (VK.out w' hg);rw[ty,Oh]at this;exact this.mono fun e w2 q=>⟨q.1,hg.trans q.2⟩
 have I2:Hid (∀z w',z=((0:Nat):Int)+1->Gr w w'->Calls Tryz.prog 126 #[.int .i64 z] w' fun e w2=>e=Rw (.string ⟨D2.toArray⟩)/\Hid (Gr w w2)):=fun z w' hz hg=>by subst hz;have:=oR (0+1) (by omega) w' (VK.out w' hg);rw[tx,Oi]at this;exact this.mono fun e w2 q=>⟨q.1,hg.trans q.2⟩
 have PW:Hid (∀(t:ByteArray) w',Gr w w'->t.data.toList=K1 D1 D2->Calls Tryz.prog 42 #[.pointer (some (aq b 0)),.string t] w' fun e w2=>e=Rw (.tuple #[.int .i64 t.size,.nilIface])/\Hid (aU w w2 B b (V:Int) a f g d (l++K1 D1 D2))):=fun t w' hg ht=>by
  have As:t.size<=100:=by have:t.size=t.data.toList.length:=rfl;rw[this,ht];rw[Oh]at E5;rw[Oi]at Ov;unfold K1;simp;omega
  have:=eM B b p v (V:Int) a f g d l t w' (HP.out.up hg.below) (by omega) (aH hBw hg.size);rw[ht]at this;exact this.mono fun e w2 ⟨he,h1⟩=>⟨he,aU.start hg hBw ⟨_,h1⟩⟩
 rw[Oh,Oi]at HS;have w1:IntKind.i64.wrap ((Y:Int)+1)=(Y:Int)+1:=IntWalk.i64_in _ (by omega);have w2:IntKind.i64.wrap (((0:Nat):Int)+1)=((0:Nat):Int)+1:=IntWalk.i64_in _ (by omega);have hl1:D1.length<=3:=by rw[<-Oh];exact E5
 have uu:D2.length<=3:=by rw[<-Oi];exact Ov
 have j1:¬9223372036854775807<2+D1.length:=by omega
 have j2:¬9223372036854775807<2+D1.length+1:=by omega
 have j3:¬9223372036854775807<2+D1.length+1+D2.length:=by omega
 have j4:¬9223372036854775807<2+D1.length+1+D2.length+1:=by omega
 clear hl1 uu;have hV0:¬V=0:=by omega
 have On:¬(V:Int)=0:=by omega
 have bj:((i:Int)!=a)=false:=by simpa using hc
 have wy:IntKind.i64.wrap (Y:Int)=(Y:Int):=IntWalk.i64_in _ (by omega);have ux:(i:Int) %(V:Int)=((0:Nat):Int):=by rw[<-hX];exact(Ro i V).symm
 have RX:(i:Int)/(V:Int)=(Y:Int):=by rw[<-hY];exact(Int.natCast_ediv i V).symm
 have OI:(i:Int).tmod (V:Int)=0:=by rw[Ef (Jh i),ux];rfl
 have rj:(i:Int) %(V:Int)=0:=by rw[ux];rfl
 have hm2:((i:Int).tmod (V:Int)==0)=true:=by rw[OI];rfl
 have hQ:IntKind.i64.wrap (IntKind.i64.wrap ((i:Int)/(V:Int))+1)=(Y:Int)+1:=by rw[RX,wy,w1]
 have hR:IntKind.i64.wrap ((i:Int).tmod (V:Int)+1)=((0:Nat):Int)+1:=by rw[Ef (Jh i),ux,w2]
 clear h ht aO hBw hX dJ hY hi E5 Ov ty tx Oh Oi RX ux wy w1 w2 hc hV Oy;go_enter Tryz.func68,Tryz.ntmps68;go_wp2_with fail;go_region_held(fun W_=>W_.cell? (aq b 2)=some (.int .i64 (V:Int))) (go_keep) (first|(go_at_call 126;first|(with_reducible refine ai (I1.out _ _ (by with_reducible rfl) (by first|exact Gr.refl _|exact(Gr.refl _).drew|assumption|exact rR (by assumption)|exact Gr.drew (rR (by assumption)))) ?_;rintro e1 u1 ⟨rfl,J1⟩;have c2:u1.cell? (aq b 2)=some (.int .i64 (V:Int)):=(HP.out.up J1.out.below).cell (k:=2) rfl)|(with_reducible refine ai (I2.out _ _ (by first|with_reducible rfl|decide) (by first|exact J1.out|exact J1.out.drew)) ?_;rintro e2 u2 ⟨rfl,J2⟩;have c2:u2.cell? (aq b 2)=some (.int .i64 (V:Int)):=(HP.out.up J2.out.below).cell (k:=2) rfl))|(go_at_call 42;refine ai (PW.out _ _ (by first|exact J2.out|exact J2.out.drew) (by simp[K1])) ?_;rintro e3 u3 ⟨rfl,HT⟩;have c2:u3.cell? (aq b 2)=some (.int .i64 (V:Int)):=(by obtain⟨p1,v1,fj,_⟩:=HT.out;exact fj.cell (k:=2) rfl)));all_goals
  have z3:u3.frozen? (aq b 3)=false:=by obtain⟨p1,v1,fj,_⟩:=HT.out;exact fj.fz 3
  have k3:u3.cell? (aq b 3)=some (.int .i64 a):=by obtain⟨p1,v1,fj,_⟩:=HT.out;exact fj.cell (k:=3) rfl
  go_wp2_with fail;go_end0;have X_:=HT.out.at3 (i:Int);rw[<-HS.out]at X_;exact⟨rfl,by first|exact X_|exact X_.drew|exact X_.drew.drew⟩
theorem Dg(B b:Nat)(p v:Value)(V:Nat)(a f g d:Int)(l:List UInt8)(i:Nat)(w:World)(h:cL w B b p v (V:Int) a f g d l)(hV:1<=V/\V<=400)(hc:(i:Int)=a)(h0:¬i %V=0):
 Calls Tryz.prog 68 #[.pointer (some (aq b 0)),.int .i64 (i:Int)] w fun e w'=>e=Rw (.tuple #[])/\Hid (aU w w' B b (V:Int) (i:Int) f g d l):=by
 obtain⟨X,hX⟩:∃X,i %V=X:=⟨_,rfl⟩;have c2:w.cell? (aq b 2)=some (.int .i64 (V:Int)):=h.cell (k:=2) rfl;have c3:w.cell? (aq b 3)=some (.int .i64 a):=h.cell (k:=3) rfl;have HP:Hid (aU w w B b (V:Int) (i:Int) f g d l):=by rw[hc];exact⟨p,v,h,ag _ _,Lib.OthersKept.refl _ _ _⟩
 have hV0:¬V=0:=by omega
 have On:¬(V:Int)=0:=by omega
 have bj:((i:Int)!=a)=false:=by simpa using hc
 have Aw:¬X=0:=by omega
 have sX:((X:Int)==0)=false:=by simpa using Aw
 have ux:(i:Int) %(V:Int)=(X:Int):=by rw[<-hX];exact(Ro i V).symm
 have OI:(i:Int).tmod (V:Int)=(X:Int):=by rw[Ef (Jh i),ux]
 clear h hX hV h0 hc;go_enter Tryz.func68,Tryz.ntmps68;go_wp2;go_end0;exact⟨rfl,HP.out⟩
theorem FU(B b:Nat)(p v:Value)(V:Nat)(a f g d:Int)(l:List UInt8)(i:Nat)(w:World)(h:cL w B b p v (V:Int) a f g d l)(aO:l.length<=1099511627776)(hBw:B<=w.heap.size)(hV:1<=V/\V<=400)(hi:i<400*V)(ht:dC w)(Oy:12<B):
 Calls Tryz.prog 68 #[.pointer (some (aq b 0)),.int .i64 (i:Int)] w fun e w'=>e=Rw (.tuple #[])/\Hid (aU w w' B b (V:Int) (i:Int) f g d (l++wO V a i)):=by
 unfold wO;by_cases hc:(i:Int)=a
 ·by_cases h0:i %V=0;·rw[if_pos (.inr h0)];exact Dh B b p v V a f g d l i w h aO hBw hV hi ht Oy hc h0
  ·rw[if_neg (fun q=>by rcases q with q|q;exact q hc;exact h0 q),ik];exact Dg B b p v V a f g d l i w h hV hc h0
 ·rw[if_pos (.inl hc)];exact zO B b p v V a f g d l i w h aO hBw hV hi ht Oy hc
theorem CB.pen{w w2:World}{B b:Nat}{W a f g d:Int}{l:List UInt8}{q off n:Nat}{C:Nat->Ce}(h:CB w q off n C)(ht:aU w w2 B b W a f g d l)(hb:q≠b):CB w2 q off n C:=h.kept fun cs fz he=>ht.block he hb (by decide)
theorem CB.gr{w w2:World}{q off n:Nat}{C:Nat->Ce}(h:CB w q off n C)(ht:Gr w w2):CB w2 q off n C:=h.kept fun cs fz he=>(ht.below.block _ (az.1 he).1).trans he
theorem aU.next{w w1 w2:World}{B b:Nat}{W W' a f g d a' f' g' d':Int}{l l':List UInt8}(h:aU w w1 B b W a f g d l)(h2:aU w1 w2 B b W' a' f' g' d' l'):aU w w2 B b W' a' f' g' d' l':=by obtain⟨_,_,_,h3,h4⟩:=h;obtain⟨p',v',k1,k2,k3⟩:=h2;exact⟨p',v',k1,h3.trans k2,h4.trans k3⟩
theorem aU.gr{w w1 w2:World}{B b:Nat}{W a f g d:Int}{l:List UInt8}(h:aU w w1 B b W a f g d l)(hg:Gr w1 w2)(hB:B<=w1.heap.size):aU w w2 B b W a f g d l:=by obtain⟨p',v',h1,h2,h3⟩:=h;exact⟨p',v',h1.up hg.below,h2.trans (hg.below.mono hB),h3.trans (iu hg.below _ _)⟩
theorem aU.size{w w1:World}{B b:Nat}{W a f g d:Int}{l:List UInt8}(h:aU w w1 B b W a f g d l)(hB:B<=w.heap.size):B<=w1.heap.size:=by obtain⟨p',v',h1,h2,h3⟩:=h;exact aH hB h2.size
theorem aU.tens{w w1:World}{B b:Nat}{W a f g d:Int}{l:List UInt8}(h:aU w w1 B b W a f g d l)(ht:dC w)(hB:12<B):dC w1:=by obtain⟨p',v',h1,h2,h3⟩:=h;exact ht.below h2 hB
theorem Ny(t f g b q t1 f1 g1 b1 q1):(t.toList==t1.toList)=false/\(⟨t,f,g,b,q⟩:Ce)≠⟨t1,f1,g1,b1,q1⟩\/t=t1/\((f==f1)=false/\(⟨t,f,g,b,q⟩:Ce)≠⟨t1,f1,g1,b1,q1⟩\/f=f1/\((g==g1)=false/\(⟨t,f,g,b,q⟩:Ce)≠⟨t1,f1,g1,b1,q1⟩\/g=g1/\((b==b1)=false/\(⟨t,f,g,b,q⟩:Ce)≠⟨t1,f1,g1,b1,q1⟩\/b=b1/\((q==q1)=false/\(⟨t,f,g,b,q⟩:Ce)≠⟨t1,f1,g1,b1,q1⟩\/q=q1)))):=by
 by_cases h0:t=t1
 ·refine .inr ⟨h0,?_⟩;by_cases h1:f=f1
  ·refine .inr ⟨h1,?_⟩;by_cases h2:g=g1
   ·refine .inr ⟨h2,?_⟩;by_cases h3:b=b1
    ·refine .inr ⟨h3,?_⟩;by_cases h4:q=q1;·exact .inr h4
     ·exact .inl ⟨by simpa using h4,fun e=>h4 (by injection e)⟩
    ·exact .inl ⟨by simpa using h3,fun e=>h3 (by injection e)⟩
   ·exact .inl ⟨by simpa using h2,fun e=>h2 (by injection e)⟩
  ·exact .inl ⟨by simpa using h1,fun e=>h1 (by injection e)⟩
 ·exact .inl ⟨zb h0,fun e=>h0 (by injection e)⟩
theorem vc(B b:Nat)(p v:Value)(V H n:Nat)(l:List UInt8)(gO oO yV gN oN tN:Nat)(old new:Nat->Ce)(w:World)(h:cL w B b p v (V:Int) (-1) 0 0 0 l)(aO:l.length<=1000)(hBw:B<=w.heap.size)(hV:1<=V/\V<=400)(hH:1<=H/\H<=400)(L7:n=H*V)(hr:jJ new V H)(hO:CB w gO oO n old)(hN:CB w gN oN n new)(hOb:gO≠b)(hNb:gN≠b)(ht:dC w)(Oy:12<B):
 Calls Tryz.prog 43 #[.pointer (some (aq b 0)),.slice (some (aq gO oO)) n yV,.slice (some (aq gN oN)) n tN] w fun e w'=>e=Rw (.tuple #[])/\Hid (∃a,aU w w' B b (V:Int) a 0 0 0 (l++jB cJ V n old new ⟨-1,0,0,0⟩)):=by
 have kU:Tryz.prog.follows .mixedOrders=true:=by kernel_rfl
 have _m:n<=400*V:=by rw[L7];exact jw V hH.2
 have hnb:n<=160000:=by have:=Nat.mul_le_mul_left 400 hV.2;omega
 have zv:1<=n:=by rw[L7];exact Ji (by omega) (by omega)
 have TJ:∀i,i<n->AQ (new i):=fun i hi=>hr.sty (by omega);have eV:∀i,i<n->(new i).t.size<=20:=fun i hi=>hr.size (by omega);have _r:∀i,i<n->(new i).p=0\/(new i).p=1\/(new i).p=2:=fun i hi=>hr.part (by omega);obtain⟨p0,oK⟩:∃z:LP,(⟨-1,0,0,0⟩:LP)=z:=⟨_,rfl⟩;have En:gn p0.f p0.g p0.b:=by rw[<-oK];exact⟨by decide,by decide,by decide⟩
 have L9:-1<=p0.a/\p0.a<=n+2:=by rw[<-oK];exact⟨by decide,by show(-1:Int)<=_;omega⟩
 have US:Hid (∀i,i<=n->gn (bE cJ V old new p0 i).1.f (bE cJ V old new p0 i).1.g (bE cJ V old new p0 i).1.b):=IM En TJ;have UA:Hid (∀i,i<=n->-1<=(bE cJ V old new p0 i).1.a/\(bE cJ V old new p0 i).1.a<=n+2):=QL L9 _r;have UL:Hid (∀i,i<=n->(bE cJ V old new p0 i).2.length<=7200000):=fun i hi=>aH (Ad hV _m TJ i hi) (aH (Gt eV i hi) (by omega));have HST:Hid (∀i,i<n->AQ (new i)):=TJ;have nD:Hid (∀i,i<n->(new i).t.size<=20):=eV;have HPT:Hid (∀i,i<n->(new i).p=0\/(new i).p=1\/(new i).p=2):=_r;have HO:Hid (CB w gO oO n old):=hO;have HN:Hid (CB w gN oN n new):=hN;have HT:Hid (dC w):=ht;have H0:Hid (aU w w B b (V:Int) (bE cJ V old new p0 0).1.a (bE cJ V old new p0 0).1.f (bE cJ V old new p0 0).1.g (bE cJ V old new p0 0).1.b (l++(bE cJ V old new p0 0).2)):=⟨p,v,by rw[<-oK];show cL w B b p v (V:Int) (-1) 0 0 0 (l++[]);rw[ik];exact h,ag _ _,Lib.OthersKept.refl _ _ _⟩;have HV:Hid (1<=V/\V<=400):=hV;have HN4:Hid (n<=400*V):=_m;clear h hO hN ht TJ eV _r hr L7 En L9 hH hV _m;go_enter Tryz.func43,Tryz.ntmps43;go_wp2;go_loopw[10] (fun iv wr=>∃k:Nat,iv=.int .i64 k/\k<=n/\Hid (aU w wr B b (V:Int) (bE cJ V old new p0 k).1.a (bE cJ V old new p0 k).1.f (bE cJ V old new p0 k).1.g (bE cJ V old new p0 k).1.b (l++(bE cJ V old new p0 k).2))) (fun i _=>n-(intOf i).toNat);case atStart=>exact⟨0,rfl,bm _,H0.out⟩
 case round=>
  obtain⟨k,rfl,hk,HR⟩:=hrel;by_cases hlt:k<n
  ·have aR:(k:Int)<(n:Int):=by omega
   have BO:=HO.out.pen HR.out hOb;have BN:=HN.out.pen HR.out hNb;obtain⟨e,he⟩:∃e,new k=e:=⟨_,rfl⟩;obtain⟨o,ho⟩:∃e,old k=e:=⟨_,rfl⟩;have xD:∀(q:Nat) u,(c5 e)[q]?=some u->wr.cell? (aq gN (oN+k*5+q))=some u:=fun q u h=>BN.cl.cell k hlt q u (by rw[he];exact h);have hC2:∀(q:Nat) u,(c5 o)[q]?=some u->wr.cell? (aq gO (oO+k*5+q))=some u:=fun q u h=>BO.cl.cell k hlt q u (by rw[ho];exact h);obtain⟨t,f,g,d,q⟩:=e;obtain⟨t1,f1,g1,d1,q1⟩:=o;have x0:wr.cell? (aq gN (oN+k*5))=some (.string t):=xD 0 _ rfl;have x1:=xD 1 (.int .i64 f) rfl;have x2:=xD 2 (.int .i64 g) rfl;have x3:=xD 3 (.int .i64 d) rfl;have x4:=xD 4 (.int .i64 q) rfl;have HE:Hid (new k=⟨t,f,g,d,q⟩):=he;have HF:Hid (old k=⟨t1,f1,g1,d1,q1⟩):=ho;have Xt:Hid (∀W0,Gr wr W0->∀(q:Nat) u,(c5 ⟨t1,f1,g1,d1,q1⟩)[q]?=some u->W0.cell? (aq gO (oO+k*5+q))=some u):=fun W0 hg j u hu=>by have:=(BO.gr hg).cl.cell k hlt j u (by rw[ho];exact hu);exact this
   clear xD hC2 he ho BO BN;go_upto_region 3 with fail;obtain⟨W0,bc⟩:∃z,wr.alloc (.cells #[.string t,.int .i64 f,.int .i64 g,.int .i64 d,.int .i64 q] 47)=z:=⟨_,rfl⟩;obtain⟨S,hS⟩:∃z,wr.heap.size=z:=⟨_,rfl⟩;have G0:Hid (Gr wr W0):=by rw[<-bc];exact(Gr.refl wr).alloc _
   have R0:Hid (R5 47 W0 S ⟨t,f,g,d,q⟩):=by rw[<-bc,<-hS];exact R5.new wr ⟨t,f,g,d,q⟩ _
   have hSb:S≠b:=by obtain⟨p1,v1,fj,_⟩:=HR.out;have:=fj.lt;omega
   rw[bc,hS];clear x0 x1 x2 x3 x4 bc hS;obtain⟨cb,BR⟩:∃cb:Bool,cb=decide (new k≠old k/\(new k).p≠2):=⟨_,rfl⟩;have VB:Hid (cb=true↔new k≠old k/\(new k).p≠2):=by show _↔_;rw[BR];exact decide_eq_true_iff
   clear BR;go_cut[25]from 15 to 24 (fun s wx=>s=.bool cb/\Hid (Gr W0 wx));case first=>
    have c0:=R0.out.c0;have c1:=R0.out.c1;have c2:=R0.out.c2;have c3:=R0.out.c3;have c4:=R0.out.c4;have y0:W0.cell? (aq gO (oO+k*5))=some (.string t1):=Xt.out W0 G0.out 0 _ rfl;have y1:=Xt.out W0 G0.out 1 (.int .i64 f1) rfl;have y2:=Xt.out W0 G0.out 2 (.int .i64 g1) rfl;have y3:=Xt.out W0 G0.out 3 (.int .i64 d1) rfl;have y4:=Xt.out W0 G0.out 4 (.int .i64 q1) rfl;simp only at c0 c1 c2 c3 c4;have _R:Hid (cb=true↔(⟨t,f,g,d,q⟩:Ce)≠⟨t1,f1,g1,d1,q1⟩/\q≠2):=by have:=VB.out;rw[HE.out,HF.out]at this;exact this
    clear VB HE HF Xt HR R0 G0 H0 HN4 HV HT HN HO HPT nD HST UL UA US;rcases Ny t f g d q t1 f1 g1 d1 q1 with⟨e5,bj⟩|⟨rfl,⟨e5,bj⟩|⟨rfl,⟨e5,bj⟩|⟨rfl,⟨e5,bj⟩|⟨rfl,⟨e5,bj⟩|rfl⟩⟩⟩⟩;case inr.inr.inr.inr.inr=>
     obtain rfl:cb=false:=by cases cb with
      |false=>rfl
      |true=>exact absurd rfl (_R.out.1 rfl).1
     go_quiet(fail);go_wp2;go_meet;exact⟨rfl,(Gr.refl W0).drewN _⟩
    all_goals
     by_cases nT:q=2
     ·obtain rfl:cb=false:=by cases cb with
       |false=>rfl
       |true=>exact absurd nT (_R.out.1 rfl).2
      have hq3:(q !=2)=false:=by simpa using nT
      clear bj _R nT;go_quiet(fail);go_wp2;go_meet;exact⟨rfl,(Gr.refl W0).drewN _⟩
     ·obtain rfl:cb=true:=_R.out.2 ⟨bj,nT⟩;have hq3:(q !=2)=true:=by simpa using nT
      clear bj _R nT;go_quiet(fail);go_wp2;go_meet;exact⟨rfl,(Gr.refl W0).drewN _⟩
   case rest=>
    obtain⟨rfl,GC⟩:=hcut;have oI:B<=wr.heap.size:=HR.out.size hBw;have GW:Hid (Gr wr wc):=G0.out.trans GC.out;have RC:Hid (R5 47 wc S ⟨t,f,g,d,q⟩):=(GC.out.below.block _ R0.out.lt).trans R0.out;clear R0 Xt;cases cb with
    |false=>
     have HR2:Hid (aU w wc B b (V:Int) (bE cJ V old new p0 (k+1)).1.a (bE cJ V old new p0 (k+1)).1.f (bE cJ V old new p0 (k+1)).1.g (bE cJ V old new p0 (k+1)).1.b (l++(bE cJ V old new p0 (k+1)).2)):=by have e:bE cJ V old new p0 (k+1)=bE cJ V old new p0 k:=if_neg fun q=>nomatch VB.out.2 q;rw[e];exact HR.out.gr GW.out oI
     go_wp2;go_roundw;case rel=>exact⟨k+1,by go_num,by omega,HR2.out⟩
     case measure=>simp[intOf];omega
    |true=>
     have HC2:Hid (new k≠old k/\(new k).p≠2):=VB.out.1 rfl;obtain⟨pk,hpk⟩:∃z,bE cJ V old new p0 k=z:=⟨_,rfl⟩;have HUP:Hid (bE cJ V old new p0 (k+1)=(XI k ⟨t,f,g,d,q⟩,pk.2++EG cJ V pk.1 k ⟨t,f,g,d,q⟩)):=by show _=_;rw[<-hpk,<-HE.out];exact if_pos HC2.out
     have YH:=US.out k hk;have hak:=UA.out k hk;have KD:=UL.out k hk;rw[hpk]at HR YH hak KD;have uy:gn f g d:=by have:=HST.out k hlt;rw[HE.out]at this;exact this
     have eV:t.size<=20:=by have:=nD.out k hlt;rw[HE.out]at this;exact this
     have zhh:q=0\/q=1:=by have h1:=HPT.out k hlt;have h2:=HC2.out.2;rw[HE.out]at h1 h2;simp only at h1 h2;omega
     obtain⟨⟨a0,f0,g0,d0⟩,L0⟩:=pk;simp only at HR HUP YH hak KD;have Wh:(l++L0).length<=7300000:=by rw[aI];omega
     obtain⟨M0,hM0⟩:∃z,l++L0=z:=⟨_,rfl⟩;have HM0:Hid (l++L0=M0):=hM0;rw[hM0]at HR Wh;clear hM0 hpk;have HRC:Hid (aU w wc B b (V:Int) a0 f0 g0 d0 M0):=HR.out.gr GW.out oI;have zov:=Ig HV.out (i:=k) (by have:=HN4.out;omega) a0;have MV:Hid (Calls Tryz.prog 68 #[.pointer (some (aq b 0)),.int .i64 (k:Int)] wc fun e w'=>e=Rw (.tuple #[])/\Hid (aU wc w' B b (V:Int) (k:Int) f0 g0 d0 (M0++wO V a0 k))):=by obtain⟨p1,v1,fj,my,_⟩:=HRC.out;exact FU B b p1 v1 V a0 f0 g0 d0 M0 k wc fj (by omega) (aH hBw my.size) HV.out (by have:=HN4.out;omega) (HRC.out.tens HT.out Oy) Oy
     clear HR GC GW VB;go_wp2_with fail;refine MV.out.mono ?_;rintro e1 w1 ⟨rfl,H1⟩;obtain⟨M1,hM1⟩:∃z,M0++wO V a0 k=z:=⟨_,rfl⟩;have vP:M1.length<=7300010:=by rw[<-hM1,aI];omega
     have HM1:Hid (M0++wO V a0 k=M1):=hM1;rw[hM1]at H1;clear hM1 MV;have HR1:Hid (aU w w1 B b (V:Int) (k:Int) f0 g0 d0 M1):=HRC.out.next H1.out;have R1:Hid (R5 47 w1 S ⟨t,f,g,d,q⟩):=H1.out.block RC.out hSb (by decide);have c1:w1.cell? (aq S 1)=some (.int .i64 f):=R1.out.c1;have c2:w1.cell? (aq S 2)=some (.int .i64 g):=R1.out.c2;have c3:w1.cell? (aq S 3)=some (.int .i64 d):=R1.out.c3;have DP:Hid (Calls Tryz.prog 69 #[.pointer (some (aq b 0)),.agg #[.int .i64 f,.int .i64 g,.int .i64 d]] w1 fun e w'=>e=Rw (.tuple #[])/\Hid (aU w1 w' B b (V:Int) (k:Int) f g d (M1++Hb (cJ f0 g0 d0 f g d)))):=by obtain⟨p1,v1,fj,my,_⟩:=HR1.out;exact u_ B b p1 v1 (V:Int) (k:Int) f0 g0 d0 M1 f g d w1 fj (by omega) (aH hBw my.size) YH uy
     go_wp2_with fail;refine DP.out.mono ?_;rintro e2 w2 ⟨rfl,H2⟩;have znT:(Hb (cJ f0 g0 d0 f g d)).length<=15:=by rw[tQ];exact za uy
     obtain⟨M2,Z5⟩:∃z,M1++Hb (cJ f0 g0 d0 f g d)=z:=⟨_,rfl⟩;have hL2:M2.length<=7300025:=by rw[<-Z5,aI];omega
     have GB:Hid (M1++Hb (cJ f0 g0 d0 f g d)=M2):=Z5;rw[Z5]at H2;clear Z5 DP c1 c2 c3;have HR2:Hid (aU w w2 B b (V:Int) (k:Int) f g d M2):=HR1.out.next H2.out;have R2:Hid (R5 47 w2 S ⟨t,f,g,d,q⟩):=H2.out.block R1.out hSb (by decide);have c0:w2.cell? (aq S 0)=some (.string t):=R2.out.c0;have c1:w2.cell? (aq S 1)=some (.int .i64 f):=R2.out.c1;have c2:w2.cell? (aq S 2)=some (.int .i64 g):=R2.out.c2;have c3:w2.cell? (aq S 3)=some (.int .i64 d):=R2.out.c3;have c4:w2.cell? (aq S 4)=some (.int .i64 q):=R2.out.c4;have WR:Hid (Calls Tryz.prog 70 #[.pointer (some (aq b 0)),.agg #[.string t,.int .i64 f,.int .i64 g,.int .i64 d,.int .i64 q]] w2 fun e w'=>e=Rw (.tuple #[])/\Hid (aU w2 w' B b (V:Int) ((k:Int)+oD q) f g d (M2++t.data.toList))):=by obtain⟨p1,v1,fj,my,_⟩:=HR2.out;exact K_ B b p1 v1 (V:Int) (k:Int) f g d M2 t f g d q w2 fj (by omega) (aH hBw my.size) (by omega)
     go_wp2_with fail;refine WR.out.mono ?_;rintro e3 w3 ⟨rfl,H3⟩;have HR3:Hid (aU w w3 B b (V:Int) (bE cJ V old new p0 (k+1)).1.a (bE cJ V old new p0 (k+1)).1.f (bE cJ V old new p0 (k+1)).1.g (bE cJ V old new p0 (k+1)).1.b (l++(bE cJ V old new p0 (k+1)).2)):=by
      have X:=HR2.out.next H3.out;have e1:M2++t.data.toList=l++(L0++EG cJ V ⟨a0,f0,g0,d0⟩ k ⟨t,f,g,d,q⟩):=by unfold EG;rw[<-GB.out,<-HM1.out,<-HM0.out,tQ];simp only[bY]
      have e2:oD q=q+1:=by rcases zhh with e|e<;>subst e<;>rfl
      rw[e1,e2]at X;rw[HUP.out];exact X
     clear c0 c1 c2 c3 c4 WR;go_wp2;go_roundw;case rel=>exact⟨k+1,by go_num,by omega,HR3.out⟩
     case measure=>simp[intOf];omega
  ·have hge:¬(k:Int)<(n:Int):=by omega
   obtain rfl:k=n:=by omega
   have YH:=US.out k hk;have KD:=UL.out k hk;have Zu:Hid (jB cJ V k old new ⟨-1,0,0,0⟩=(bE cJ V old new p0 k).2++Hb (cJ (bE cJ V old new p0 k).1.f (bE cJ V old new p0 k).1.g (bE cJ V old new p0 k).1.b 0 0 0)):=by show _=_;rw[oK];rfl
   obtain⟨pk,hpk⟩:∃z,bE cJ V old new p0 k=z:=⟨_,rfl⟩;rw[hpk]at HR YH KD Zu;obtain⟨⟨a0,f0,g0,d0⟩,L0⟩:=pk;simp only at HR YH KD Zu;have DP:Hid (Calls Tryz.prog 69 #[.pointer (some (aq b 0)),.agg #[.int .i64 0,.int .i64 0,.int .i64 0]] wr fun e w'=>e=Rw (.tuple #[])/\Hid (aU wr w' B b (V:Int) a0 0 0 0 (l++L0++Hb (cJ f0 g0 d0 0 0 0)))):=by obtain⟨p1,v1,fj,my,_⟩:=HR.out;exact u_ B b p1 v1 (V:Int) a0 f0 g0 d0 (l++L0) 0 0 0 wr fj (by rw[aI];omega) (aH hBw my.size) YH ⟨by decide,by decide,by decide⟩
   go_wp2_with fail;refine DP.out.mono ?_;rintro e1 w1 ⟨rfl,H1⟩;go_wp2;go_end0;refine⟨rfl,a0,?_⟩;rw[Zu.out,<-List.append_assoc];exact HR.out.next H1.out
theorem aU.low{w w1 w2:World}{B b:Nat}{W a f g d:Int}{l:List UInt8}(h:aU w w1 B b W a f g d l)(hb:Bt w1 w2)(hB:B<=w1.heap.size):aU w w2 B b W a f g d l:=by obtain⟨p',v',h1,h2,h3⟩:=h;exact⟨p',v',h1.up hb,h2.trans (hb.mono hB),h3.trans (iu hb _ _)⟩
def A6:Ce:=⟨⟨#[32]⟩,0,0,0,0⟩
def sA:LP:=⟨-1,0,0,0⟩
def One(old:Nat->Ce)(nO:Nat)(x:Int)(n:Nat)(v:Int):Prop:=x=v/\nO=n/\vU old nO x
structure UpB(old:Nat->Ce)(nO:Nat)(x:Int)(new:Nat->Ce)(n V:Nat)(l:List UInt8):Prop where
 one:One old nO x n (V:Int)->l=jB cJ V n old new sA
 all:¬One old nO x n (V:Int)->l=[27,91,50,74]++jB cJ V n (fun _=>A6) new sA
theorem ua(old new:Nat->Ce)(nO V H n:Nat)(x:Int)(pO:Option Addr)(gN yV tN:Nat)(w:World)(hbO:nO<=1048576)(hO1:nO<=yV)(hO2:yV<=9223372036854775807)(hc1:n<=tN)(E4:tN<=9223372036854775807)(hO:nO=0\/∃g,pO=some (aq g 0)/\CB w g 0 nO old)(hN:CB w gN 0 n new)(ht:aL w)(hg:12<w.heap.size)(Mb:dC w)(hsO:∀i,i<nO->(old i).t.size<=1099511627776)(hV:1<=V/\V<=400)(hH:1<=H/\H<=400)(hn:n=H*V)(hr:jJ new V H):
 Calls Tryz.prog 24 #[.slice pO nO yV,.int .i64 x,.slice (some (aq gN 0)) n tN,.int .i64 (V:Int)] w fun e w'=>∃l,e=Rw (.tuple #[.string ⟨l.toArray⟩,.int .i64 0])/\Hid (UpB old nO x new n V l)/\Hid (Bt w w'):=by
 have zbT:1<=n/\n<=160000:=by rw[hn];exact⟨Ji (by omega) (by omega),aH (pJ hH.2 hV.2) (by decide)⟩
 have zca:vU new n (V:Int):=⟨V,H,rfl,hn,hV.1,hV.2,hH.1,hH.2,hr⟩;have hsN:∀i,i<n->(new i).t.size<=1099511627776:=fun i hi=>aH (hr.size (by omega)) (by decide);have HN:Hid (CB w gN 0 n new):=hN;have HO:Hid (nO=0\/∃g,pO=some (aq g 0)/\CB w g 0 nO old):=hO;have HTB:Hid (aL w):=ht;have VK:Hid (dC w):=Mb;have HSO:Hid (∀i,i<nO->(old i).t.size<=1099511627776):=hsO;have HHV:Hid (1<=V/\V<=400):=hV;have _5:Hid (1<=H/\H<=400):=hH;have HNN:Hid (n=H*V):=hn;have vW:Hid (jJ new V H):=hr;have DS:Hid (Calls Tryz.prog 41 #[.slice (some (aq gN 0)) n tN,.int .i64 (V:Int)] w fun r w'=>r=Rw (.bool true)/\Hid (Bt w w')):=
  (t_ new (V:Int) (some (aq gN 0)) n tN (by omega) hc1 E4 w (.inr ⟨gN,rfl,hN.cl⟩) ht hsN).mono fun r w' h=>by
   obtain⟨bb,h1,h2,h3⟩:=h;cases bb with
   |false=>exact absurd (h2.2 zca) (by decide)
   |true=>exact⟨h1,h3⟩
 clear hN hO ht Mb hsO hV hH hn hr zca hsN;go_enter Tryz.func24,Tryz.ntmps24;go_wp2_with fail;refine DS.out.mono ?_;rintro e w1 ⟨rfl,HB1⟩;go_upto_region 4 with fail;obtain⟨W2,qd⟩:∃z,w1.alloc (.cells #[.pointer none,.slice none 0 0,.int .i64 (V:Int),.int .i64 (-1),.int .i64 0,.int .i64 0,.int .i64 0] 110)=z:=⟨_,rfl⟩;obtain⟨b,qe⟩:∃z,w1.heap.size=z:=⟨_,rfl⟩;have G2:Hid (Gr w1 W2):=by rw[<-qd];exact(Gr.refl w1).alloc _
 have hb1:w.heap.size<=b:=by rw[<-qe];exact HB1.out.size
 have HB2:Hid (Bt w W2):=HB1.out.trans (G2.out.below.mono HB1.out.size);have tq:Hid (cL W2 w.heap.size b (.pointer none) (.slice none 0 0) (V:Int) (-1) 0 0 0 []):=by
  refine⟨hb1,.inl rfl,?_,⟨rfl,.inl ⟨rfl,rfl⟩⟩,?_⟩;·rw[<-qd,<-qe];exact qz w1 _
  ·exact fun e=>nomatch e
 rw[qd,qe];have zop:gN<w.heap.size:=HN.out.cl.lt;clear qd qe DS;go_cut[33]from 18 to 32 (fun s wx=>∃bb:Bool,s=.bool bb/\Hid (bb=true↔¬One old nO x n (V:Int))/\Hid (Bt W2 wx));case first=>
  by_cases hx:x=(V:Int)
  ·have sX:(x !=(V:Int))=false:=by simpa using hx
   by_cases hl:nO=n
   ·have hlb:((nO:Int)!=(n:Int))=false:=by simp[hl]
    have _T:Hid (Calls Tryz.prog 41 #[.slice pO nO yV,.int .i64 x] W2 fun r w'=>∃bb:Bool,r=Rw (.bool bb)/\Hid (bb=true↔One old nO x n (V:Int))/\Hid (Bt W2 w')):=
     (t_ old x pO nO yV hbO hO1 hO2 W2 (HO.out.imp id fun⟨g,a,c⟩=>⟨g,a,(c.low HB2.out).cl⟩) (HTB.out.below HB2.out) HSO.out).mono fun r w' h=>by obtain⟨bb,h1,h2,h3⟩:=h;exact⟨bb,h1,⟨fun e=>⟨hx,hl,h2.1 e⟩,fun e=>h2.2 e.2.2⟩,h3⟩
    clear hx hl;go_wp2_with fail;refine _T.out.mono ?_;rintro e w3 ⟨bb,rfl,HI,fm⟩;have HI2:Hid ((!bb)=true↔¬One old nO x n (V:Int)):=by
     have:=HI.out;cases bb with
     |true=>exact⟨fun q=>(nomatch q),fun q=>absurd (this.1 rfl) q⟩
     |false=>exact⟨fun _ q=>(nomatch this.2 q),fun _=>rfl⟩
    go_wp2;go_meet;exact⟨_,rfl,HI2.out,fm.out⟩
   ·have hlb:((nO:Int)!=(n:Int))=true:=by simpa using fun e=>hl (QW e)
    have Xr:Hid (¬One old nO x n (V:Int)):=fun q=>hl q.2.1;clear hx hl;go_wp2;go_meet;exact⟨true,rfl,⟨fun _=>Xr.out,fun _=>rfl⟩,ag _ _⟩
  ·have sX:(x !=(V:Int))=true:=by simpa using hx
   have Xr:Hid (¬One old nO x n (V:Int)):=fun q=>hx q.1;clear hx;go_wp2;go_meet;exact⟨true,rfl,⟨fun _=>Xr.out,fun _=>rfl⟩,ag _ _⟩
 case rest=>
  obtain⟨bb,rfl,HI,HBC⟩:=hcut;have fm:Hid (Bt w wc):=HB2.out.trans (HBC.out.mono HB2.out.size);have iA:Hid (cL wc w.heap.size b (.pointer none) (.slice none 0 0) (V:Int) (-1) 0 0 0 []):=tq.out.up HBC.out;have TL:w.heap.size<=wc.heap.size:=fm.out.size;cases bb with
  |false=>
   have Ss:Hid (One old nO x n (V:Int)):=Jg.1 fun q=>nomatch HI.out.2 q;obtain⟨hx,hl,hso⟩:=Ss.out;subst hl;obtain⟨gO,rfl,hCO⟩:∃g,pO=some (aq g 0)/\CB w g 0 nO old:=by
    rcases HO.out with h|h;·omega
    ·exact h
   have zoq:gO<w.heap.size:=hCO.cl.lt;have UP:Hid (Calls Tryz.prog 43 #[.pointer (some (aq b 0)),.slice (some (aq gO 0)) nO yV,.slice (some (aq gN 0)) nO tN] wc fun e w'=>e=Rw (.tuple #[])/\Hid (∃a,aU wc w' w.heap.size b (V:Int) a 0 0 0 (jB cJ V nO old new sA))):=
    vc w.heap.size b _ _ V H nO [] gO 0 yV gN 0 tN old new wc iA.out (by decide) TL HHV.out _5.out HNN.out vW.out (hCO.low fm.out) (HN.out.low fm.out) (by omega) (by omega) (VK.out.below fm.out hg) hg;clear hx hso hCO;go_wp2_with fail;refine UP.out.mono ?_;rintro e4 w4 ⟨rfl,HU⟩;have ST:Hid (Calls Tryz.prog 44 #[.pointer (some (aq b 0))] w4 fun e w'=>e=Rw (.string ⟨(jB cJ V nO old new sA).toArray⟩)/\Hid (Bt w w')):=by obtain⟨a,p1,v1,k1,k2,k3⟩:=HU.out;exact(va w.heap.size b p1 v1 (V:Int) a 0 0 0 _ w4 k1 (aH TL k2.size)).mono fun e w' q=>⟨q.1,(fm.out.trans k2).trans q.2.out.1⟩
   clear UP;go_wp2_with fail;refine ST.out.mono ?_;rintro e5 w5 ⟨rfl,H5⟩;go_wp2;go_ret2;exact⟨_,rfl,⟨fun _=>rfl,fun q=>absurd Ss.out q⟩,H5.out⟩
  |true=>
   have Ss:Hid (¬One old nO x n (V:Int)):=HI.out.1 rfl;have PW:Hid (Calls Tryz.prog 42 #[.pointer (some (aq b 0)),.string ⟨#[27,91,50,74]⟩] wc fun e w2=>e=Rw (.tuple #[.int .i64 4,.nilIface])/\Hid (aU wc w2 w.heap.size b (V:Int) (-1) 0 0 0 [27,91,50,74])):=
    (eM w.heap.size b _ _ (V:Int) (-1) 0 0 0 [] ⟨#[27,91,50,74]⟩ wc iA.out (by decide) TL).mono fun e w2 ⟨he,h1⟩=>⟨he,_,h1⟩;go_wp2_with fail;refine PW.out.mono ?_;rintro e4 w4 ⟨rfl,H4⟩;have zhD:w.heap.size<=w4.heap.size:=H4.out.size TL;clear PW;go_wp2_with fail;obtain⟨W5,Hm⟩:∃z,w4.alloc (.cells #[.string ⟨#[32]⟩,.int .i64 0,.int .i64 0,.int .i64 0,.int .i64 0] 47)=z:=⟨_,rfl⟩;obtain⟨S5,hS5⟩:∃z,w4.heap.size=z:=⟨_,rfl⟩;have G5:Hid (Gr w4 W5):=by rw[<-Hm];exact(Gr.refl w4).alloc _
   have R5b:R5 47 W5 S5 A6:=by rw[<-Hm,<-hS5];exact R5.new w4 A6 _
   have RP:Hid (Calls Tryz.prog 29 #[.slice (some (aq S5 0)) 1 1,.int .i64 (n:Int)] W5 fun r w'=>r=Rw (.slice (some (aq W5.heap.size 0)) n n)/\Hid (CB w' W5.heap.size 0 n (fun _=>A6))/\Hid (Bt w4 w')):=by
    refine(FY W5 A6 S5 n zbT R5b.lt fun k u hu=>?_).mono fun r w' ⟨h1,⟨L,h2,h3⟩,h4⟩=>⟨h1,⟨⟨_,_,h2⟩,(az.1 h2).1,fun i hi k u hu=>?_⟩,G5.out.below.trans (h4.mono G5.out.size)⟩;·rw[Lib.cell_of_heap R5b,<-hu];match k with
     |0=>rfl
     |1=>rfl
     |2=>rfl
     |3=>rfl
     |4=>rfl
     |_+5=>rfl
    ·rw[Lib.cell_of_heap h2,cB,List.getElem?_toArray];exact h3.2 i k u hi hu
   have hg5:w4.heap.size<=W5.heap.size:=G5.out.size;rw[Hm,hS5];clear Hm hS5 R5b;refine RP.out.mono ?_;rintro e6 w6 ⟨rfl,VB,Vz⟩;have H6:Hid (aU wc w6 w.heap.size b (V:Int) (-1) 0 0 0 [27,91,50,74]):=H4.out.low Vz.out zhD;have HB7:Hid (Bt w w6):=by obtain⟨p1,v1,k1,k2,k3⟩:=H6.out;exact fm.out.trans k2
   have zce:w.heap.size<=w6.heap.size:=HB7.out.size;have zgq:b<W5.heap.size:=by obtain⟨p1,v1,k1,k2,k3⟩:=H4.out;have:=k1.lt;omega
   obtain⟨g6,hg6⟩:∃z,W5.heap.size=z:=⟨_,rfl⟩;rw[hg6]at VB zgq⊢;have UP:Hid (Calls Tryz.prog 43 #[.pointer (some (aq b 0)),.slice (some (aq g6 0)) n n,.slice (some (aq gN 0)) n tN] w6 fun e w'=>e=Rw (.tuple #[])/\Hid (∃a,aU w6 w' w.heap.size b (V:Int) a 0 0 0 ([27,91,50,74]++jB cJ V n (fun _=>A6) new sA))):=by obtain⟨p1,v1,k1,k2,k3⟩:=H6.out;exact vc w.heap.size b p1 v1 V H n [27,91,50,74] g6 0 n gN 0 tN (fun _=>A6) new w6 k1 (by decide) zce HHV.out _5.out HNN.out vW.out VB.out (HN.out.low HB7.out) (by omega) (by omega) (VK.out.below HB7.out hg) hg
   clear RP hg6;go_wp2_with fail;refine UP.out.mono ?_;rintro e8 w8 ⟨rfl,HU⟩;have ST:Hid (Calls Tryz.prog 44 #[.pointer (some (aq b 0))] w8 fun e w'=>e=Rw (.string ⟨([27,91,50,74]++jB cJ V n (fun _=>A6) new sA).toArray⟩)/\Hid (Bt w w')):=by obtain⟨a,p1,v1,k1,k2,k3⟩:=HU.out;exact(va w.heap.size b p1 v1 (V:Int) a 0 0 0 _ w8 k1 (aH zce k2.size)).mono fun e w' q=>⟨q.1,(HB7.out.trans k2).trans q.2.out.1⟩
   clear UP;obtain⟨LL,hLL⟩:∃z,[27,91,50,74]++jB cJ V n (fun _=>A6) new sA=z:=⟨_,rfl⟩;have Jn:Hid ([27,91,50,74]++jB cJ V n (fun _=>A6) new sA=LL):=hLL;rw[hLL]at ST;clear hLL;go_wp2_with fail;refine ST.out.mono ?_;rintro e9 w9 ⟨rfl,H9⟩;go_wp2;go_ret2;exact⟨_,rfl,⟨fun q=>absurd q Ss.out,fun _=>Jn.out.symm⟩,H9.out⟩
structure Mj(p:Tm×St)(W H:Nat)(new:Nat->Ce):Prop where
 out:p.2=.out
 eW:p.1.W=W
 eH:p.1.H=H
 sh:mX p.1.c W H new
 f:p.1.r.f=0
 g:p.1.r.g=0
 b:p.1.r.b=0
section
variable{W H:Nat} {old new:Nat->Ce} {t:Tm}
theorem Zf(hf:t.r.f=0)(hg:t.r.g=0)(hb:t.r.b=0):tA W t sA:=⟨hf,hg,hb,⟨by decide,by decide,by decide⟩,fun j hj=>by have:(-1:Int)=j:=hj;omega⟩
theorem xw(hW:1<=W/\W<=400)(hH:1<=H/\H<=400)(ho:jJ old W H)(hn:jJ new W H)(h1:t.W=W)(h2:t.H=H)(hs:mX t.c W H old)(hf:t.r.f=0)(hg:t.r.g=0)(hb:t.r.b=0):Mj (runT (t,.out) (jB cJ W (H*W) old new sA)) W H new:=by obtain⟨t',e,a1,a2,a3,a4,a5,a6⟩:=SG LD hW hH ho hn h1 h2 (Zf hf hg hb) hs;rw[e];exact⟨rfl,a1,a2,a3,a4,a5,a6⟩
theorem JL:GL A6 1:=by unfold GL A6;decide
theorem JK:jJ (fun _=>A6) W H:=fun y hy i h1 h2=>⟨⟨by decide,by decide,by decide⟩,.inl rfl,fun q=>(by cases q),fun q=>(by cases q),fun _=>JL⟩
theorem Lh(hW:1<=t.W/\t.W<=400)(hH:1<=t.H/\t.H<=400)(hf:t.r.f=0)(hg:t.r.g=0)(hb:t.r.b=0):∃t',runT (t,.out) [27,91,50,74]=(t',.out)/\t'.W=t.W/\t'.H=t.H/\mX t'.c t.W t.H (fun _=>A6)/\t'.r.f=0/\t'.r.g=0/\t'.r.b=0:=by have e:runT (t,.out) [27,91,50,74]=({t with c:=kq t.W t.H t.c 0 0 t.W t.H 0 0 0 0 0 t.W t.H,r:=clr t.r},.out):=rfl;exact⟨_,e,rfl,rfl,fun y x hy hx=>J' hW hH t.c hy hx,hf,hg,hb⟩
theorem J9(hW:1<=W/\W<=400)(hH:1<=H/\H<=400)(hn:jJ new W H)(h1:t.W=W)(h2:t.H=H)(hf:t.r.f=0)(hg:t.r.g=0)(hb:t.r.b=0):Mj (runT (t,.out) ([27,91,50,74]++jB cJ W (H*W) (fun _=>A6) new sA)) W H new:=by obtain⟨t',e,a1,a2,a3,a4,a5,a6⟩:=Lh (t:=t) (by rw[h1];exact hW) (by rw[h2];exact hH) hf hg hb;rw[h1,h2]at a3;rw[lK,e];exact xw hW hH JK hn (a1.trans h1) (a2.trans h2) a3 a4 a5 a6
end
