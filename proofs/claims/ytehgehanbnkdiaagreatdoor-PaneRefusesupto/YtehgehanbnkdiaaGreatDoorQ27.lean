import Derived.Test.YtehgehanbnkdiaaGreatDoorQ09
import Derived.Test.YtehgehanbnkdiaaGreatDoorQ25
import Derived.Deep.CutBlock
set_option linter.all false
set_option maxRecDepth 100000
set_option maxHeartbeats 16000000
namespace Go.Proofs.YtehgehanbnkdiaaGreatDoor
open Go.RowKit Go.Proofs.Tryz
structure uw(W0:AT)(rb B:Nat)(s:BY)(D m i:Nat)(bad:Int)(F:dM)(L:zza)(lv:Fd)(AV:Nat->Nat)(KV:Nat->Fd)(W:AT):Prop where
 j:EJ rb s lv (EF F m D) i bad W
 dl:D<=i
 d:RD W B lv L AV KV
 le:L.length<=i
 g:∀k,(ae L k).kids.length<=L.length
 b:rb<B/\B<=W.heap.size
 fr:Fr B rb W0 W
def oN(W0:AT)(rb B:Nat)(s:BY)(D i:Nat)(bad:Int)(F:dM)(L:zza)(W:AT):Prop:=∃lv AV KV,uw W0 rb B s D i i bad F L lv AV KV W
section
variable{W0 W W':AT} {rb B D m i:Nat} {s:BY} {bad:Int} {F:dM} {lv:Fd} {L:zza} {AV:Nat->Nat} {KV:Nat->Fd} {x:Nat->Int->Prop}
def uw.to(h:uw W0 rb B s D m i bad F L lv AV KV W){c f:Nat}{a:Int}{e:dM}(k:EJ rb s lv (EF e f D) c a W')(d:ED rb i bad W c a W'):uw W0 rb B s D f c a e L lv AV KV W':=⟨k,aA h.dl d.1,h.d.up (Up.grown d.2.2 h.b.1),aA h.le d.1,h.g,⟨h.b.1,aA h.b.2 d.2.2.size⟩,h.fr.trans (Fr.grown d.2.2 h.b.2)⟩
def uw.wk(h:uw W0 rb B s D m i bad F L lv AV KV W){p:Nat}(a:m<=p):uw W0 rb B s D p i bad F L lv AV KV W:=h.to (h.j.mono λ_ _ _=>EF.on a) ED.refl
def uw.on(h:uw W0 rb B s D m i bad F L lv AV KV W)(k:EE rb s lv (EF F m D) i bad W x W'):∃b a,x b a/\i<=b/\(a<0->bad<0)/\uw W0 rb B s D m b a F L lv AV KV W':=by obtain⟨b,d,e,c,f⟩:=k;exact⟨b,d,f,c.1,c.2.1,h.to e c⟩
def Qa(W0:AT)(rb B:Nat)(s:BY)(D i:Nat)(L:zza)(bad:Int)(R:Except Nat PS)(W:AT):Prop:=∃i' aS F' L',oN W0 rb B s D i' aS F' L' W/\i<=i'/\L.length<=L'.length/\(aS<0->bad<0)/\Fi bad R ⟨i',L',F'⟩ aS
def R_(rb B:Nat)(s:BY)(f:Nat):Prop:=∀(up:Int) (W0 w:AT) (D i:Nat) (bad:Int) (F:dM) (L:zza),oN W0 rb B s D i bad F L w->(up=-1\/∃j:Nat,up=j/\j<L.length)->s.size<f+i->Cw 37 #[Pq rb,Iq up] w λe w'=>e=Rw (.tuple #[])/\Hid (Qa W0 rb B s D i L bad (dn s f up D ⟨i,L,F⟩) w')
def R9(W0:AT)(rb B:Nat)(s:BY)(D i:Nat)(bad:Int)(F:dM)(L:zza)(x:Nat->Int->Prop)(w:AT):Prop:=∃i' aS,Hid (x i' aS)/\i<=i'/\Hid (aS<0->bad<0)/\Hid (oN W0 rb B s D i' aS F L w)
def uw.o(h:uw W0 rb B s D i i bad F L lv AV KV W)(k:EE rb s lv (EF F i D) i bad W x W'):R9 W0 rb B s D i bad F L x W':=by obtain⟨c,b,d,a,e,f⟩:=h.on k;exact⟨c,b,d,a,e,_,_,_,f.wk a⟩
def tz(h:oN W0 rb B s D i bad F L W)(d:s.size<=4000)(c:Nat)(b:c<256:=by decide):Cw 80 #[Pq rb,.int .u8 (c:Int)] W λe w'=>e=Rw (.tuple #[])/\R9 W0 rb B s D i bad F L (Fi bad (cG s i c)) w':=by obtain⟨_,_,_,h⟩:=h;exact(Bi h.j d c b).mono λe w' ⟨a,E⟩=>⟨a,h.o E⟩
def NK(h:oN W0 rb B s D i bad F L W)(k:s.size<=4000)(c:Nat)(g:c<256:=by decide):Cw 118 #[Pq rb,.int .u8 (c:Int)] W λe w'=>∃b:Bool,e=Rw (.bool b)/\R9 W0 rb B s D i bad F L (λa d=>d=bad/\(bad<0->b=aK s i c/\a=an s i c)/\(b=true->bad<0/\i<a)) w':=by obtain⟨_,_,_,h⟩:=h;exact(Lc h.j k c g).mono λe w' ⟨b,f,E⟩=>⟨b,f,h.o E⟩
def oN.c(h:oN W0 rb B s D i bad F L W):W.cell? (aq rb 3)=some (Iq bad)/\rdI W rb=i/\i<=s.size:=by obtain⟨_,_,_,h⟩:=h;exact⟨h.j.c.2.2,h.j.rd,h.j.1⟩
def Bk{j c:Nat}(h:aK s j c=false):an s j c=sk s j:=by unfold an;rw[if_neg (by simpa[aK]using h)]
def sB(s:BY)(st:PS):Except Nat PS:=match cG s st.i 93 with
 |.error b=>.error b
 |.ok i3=>.ok {st with i:=i3}
def Je(j:Nat):sB s ⟨sk s j,L,F⟩=sB s ⟨j,L,F⟩:=by unfold sB cG;rw[Bo,Bl,jq]
def P_(s:BY)(nd:PS->Except Nat PS)(R:Except Nat PS)(bad:Int)(m:Bool)(j:Nat)(b:Int)(F:dM)(L:zza):Prop:=bad<0->(b<0->if m then∃g,s.size<g+j/\eP s nd g ⟨j,L,F⟩=R else sB s ⟨j,L,F⟩=R)/\(0<=b->∃e,R=.error e)
def P_.round{u:PS->Except Nat PS}{R}{b r:Int}{j f k:Nat}{o:dM}{p:zza}{c:Bool}(h:P_ s u R bad true j b F L)(t:b<0)(v:Fi b (u ⟨j,L,F⟩) ⟨f,p,o⟩ r)(G:j<=s.size)(y:r<0->c=aK s f 44/\k=an s f 44)(C:c=true->j<k):P_ s u R bad c k r o p:=λq=>by
 obtain⟨g,E,a⟩:=(h q).1 t;obtain⟨g,rfl⟩:∃x,g=x+1:=⟨g-1,dg⟩;rw[eP]at a;refine⟨λz=>?_,λz=>?_⟩;.rw[(v t).1 z]at a;obtain⟨l,w⟩:=y z;cases d:aK s f 44 with
  |true=>rw[d]at l;subst l;simp only[d,if_true]at a;exact⟨g,by have:=C rfl;omega,by rw[w];exact a⟩
  |false=>rw[d]at l;subst l;simp only[d,qD,if_false]at a;show sB s ⟨k,p,o⟩=R;rw[w,Bk d,Je];exact a
 .obtain⟨e,A⟩:=(v t).2 z;rw[A]at a;exact⟨e,a.symm⟩
def QJ{f:Nat}(Y:R_ rb B s f)(N:s.size<=4000)(h:oN W0 rb B s D i bad F L W){k:Nat}(hk:k<L.length)(hf:s.size<f+i){kd:Nat}(w:kd<3):Cw 79 #[Pq rb,Iq (k:Int)] W λe w'=>e=Rw (.tuple #[])/\Hid (Qa W0 rb B s D i L bad (dP s kd k (dn s f k D) ⟨i,L,F⟩) w'):=by
 replace h:=qH h;replace Y:=qH Y;obtain⟨R,g⟩:=af (dP s kd k (dn s f k D) ⟨i,L,F⟩);rw[g];rw[dP,if_pos w]at g;replace g:=qH g;clear w;go_enter func79,ntmps79;go_wp2_with fail;refine Ut (tz h.out N 91) ?_;rintro r ⟨i1,b1,x1,l1,U,H1⟩;go_wp2_with fail;refine(NK H1.out N 93).mono ?_;rintro e w2 ⟨c,rfl,O,I,x2,l2,_,S⟩;obtain⟨rfl,y2,_⟩:=x2.out;have V:Hid (bad<0->0<=I->∃e,R=.error e):=λp q=>by obtain⟨e,Z⟩:=(x1.out p).2 q;rw[<-g.out,Z];exact⟨_,rfl⟩
 have X:Hid (bad<0->I<0->if c then R=.ok ⟨O,L,F⟩else eP s (dn s f k D) (s.size+1) ⟨O,L,F⟩=R):=λp q=>by
  obtain⟨y1,rfl⟩:=y2 q;rw[<-g.out,(x1.out p).1 q];simp only;rw[<-y1];cases c;.rw[Bk y1.symm];rfl
  .rfl
 clear H1 x1 x2 y2 g h;cases c;rotate_right
 .go_wp2;try simp only[Exit.inBlock,Exit.then]
  refine bodyPost_ret (results_none rfl _ _ _) rfl ?_;exact⟨rfl,O,I,F,L,S,dg,LE,U,λp=>⟨X.out p,V.out p⟩⟩
 go_wp2_with fail;go_loopw[4] (λmv wr=>∃(m:Bool) (j:Nat) (b:Int),mv=.bool m/\i<=j/\Hid (∃d a,L.length<=a.length/\(b<0->bad<0)/\oN W0 rb B s D j b d a wr/\P_ s (dn s f k D) R bad m j b d a)) (λmv wr=>if Iu mv then s.size+1-rdI wr rb else 0);.exact⟨true,O,I,rfl,dg,F,L,LE,U,S,λp=>⟨λq=>⟨s.size+1,dg,X.out p q⟩,V.out p⟩⟩
 obtain⟨m,j,b,rfl,hj,HX⟩:=hrel;obtain⟨d,a,hL,K,v,t⟩:=HX.out;obtain⟨c3,o,ze⟩:=v.c;replace o:=qH o;replace K:=qH K;replace v:=qH v;replace t:=qH t;clear HX U S V X;by_cases l:m=true/\b<0
 .obtain⟨rfl,M⟩:=l;have eb:=decide_eq_true M;go_wp2_with fail;refine Ut (Y.out (k:Int) W0 wr D j b d a v (.inr ⟨k,rfl,dg⟩) dg) ?_;rintro w3 E;obtain⟨i3,b3,F3,L3,G,l3,m3,C,q3⟩:=E.out;go_wp2_with fail;refine(NK G N 44).mono ?_;rintro e w4 ⟨c,rfl,A,J,x4,l4,_,H⟩;obtain⟨rfl,y4,z4⟩:=x4.out;have y:c=true->j<A:=λe=>by have:=(z4 e).2;omega
  have HE:Hid (∃d a,L.length<=a.length/\(J<0->bad<0)/\oN W0 rb B s D A J d a w4/\P_ s (dn s f k D) R bad c A J d a):=⟨F3,L3,dg,λe=>K.out (C e),H,t.out.round M q3 ze y4 y⟩;have T:=qH H.out.c.2.1;have zh:=H.out.c.2.2;clear E G C q3 c3 x4 y4 z4 H;go_wp2_with fail;go_roundw;.exact⟨c,A,J,rfl,dg,HE⟩
  .rw[T.out,o.out];cases c with
   |false=>show 0<s.size+1-j;omega
   |true=>have:=y rfl;show s.size+1-A<s.size+1-j;omega
 .have Q:Hid (Cw 80 #[Pq rb,.int .u8 93] wr λe u=>e=Rw (.tuple #[])/\Hid (Qa W0 rb B s D i L bad R u)):=(tz v.out N 93).mono λe u ⟨h1,i3,b3,x3,l3,C,G⟩=>⟨h1,i3,b3,d,a,G,dg,hL,λe=>K.out (C.out e),λp=>by
   by_cases r:b<0;.have hK:=(t.out p).1 r;rw[if_neg λz=>l ⟨z,r⟩]at hK;rw[<-hK];unfold sB;refine⟨λz=>by rw[(x3.out r).1 z],λz=>?_⟩;obtain⟨e,Z⟩:=(x3.out r).2 z;exact⟨e,by rw[Z]⟩
   .exact⟨λz=>absurd (C.out z) r,λ_=>(t.out p).2 dg⟩⟩;have zg:m=false\/(m=true/\¬b<0):=by cases m<;>simp_all
  rcases zg with rfl|⟨rfl,M⟩;focus skip
  rotate_right;focus have eb:=decide_eq_false M
  all_goals clear l;go_wp2_with fail;refine Ut Q.out ?_;rintro w3 E;go_wp2;go_end0;exact⟨rfl,E⟩
end
section
variable{W0 W W':AT} {rb B D m i n:Nat} {s:BY} {bad:Int} {F:dM} {lv VO:Fd} {L:zza} {AV:Nat->Nat} {KV:Nat->Fd} {P P':Int->Int->Int->Prop}
def EJ.chg(h:EJ rb s lv P i bad W)(u:W.heap.size<=W'.heap.size)(c:∀j,j≠2->j≠6->W'.cell? (aq rb j)=W.cell? (aq rb j))(o:W'.cell? (aq rb 2)=some VO)(g:∀d,W.cell? (aq rb 6)=some (Iq d)->∃d',W'.cell? (aq rb 6)=some (Iq d')/\∀a b,P a b d->P' a b d')(t:∀j,W'.frozen? (aq rb j)=W.frozen? (aq rb j)):EJ rb s VO P' i bad W':=by obtain⟨l,k,at_,f,r,e⟩:=h;obtain⟨d,g,p⟩:=g f r.c6;exact⟨l,k,at_,d,⟨zz006 r.lt u,(c 0 (by decide) (by decide)).trans r.c0,(c 1 (by decide) (by decide)).trans r.c1,o,(c 3 (by decide) (by decide)).trans r.c3,(c 4 (by decide) (by decide)).trans r.c4,(c 5 (by decide) (by decide)).trans r.c5,g,λj=>(t j).trans (r.fz j)⟩,λq=>p _ _ (e q)⟩
def EJ.r(h:EJ rb s lv P i bad W):∃d,W.cell? (aq rb 6)=some (Iq d)/\(∀j,W.frozen? (aq rb j)=false)/\rb<W.heap.size/\(bad<0->∃a b,P a b d):=by obtain⟨l,f,at_,c,r,e⟩:=h;exact⟨c,r.c6,r.fz,r.lt,λq=>⟨_,_,e q⟩⟩
def EJ.far{o:Option Nat}(h:EJ rb s lv P i bad W)(f:W.grownBy W' o)(g:o≠some rb):EJ rb s lv P i bad W':=by have b:=f.block rb h.r.choose_spec.2.2.1 (Ne.symm g);have c:=λj=>aQ (w:=W) (w':=W') (a:=(aq rb j)) b;exact h.chg f.size (λj _ _=>c j) ((c 2).trans h.c.2.1) (λd e=>⟨d,(c 6).trans e,λ_ _=>id⟩) λj=>kE b
def EJ.setL(h:EJ rb s lv P i bad W)(v:Fd):EJ rb s v P i bad (W.setCell (aq rb 2) v):=
 h.chg At (λj a _=>cu _ _ _ _ λq=>a (by simpa using q.symm)) (ff h.c.2.1) (λd e=>⟨d,aF (by decide) e,λ_ _=>id⟩) λj=>eS _ _ _ _
def uw.below(h:uw W0 rb B s D m i bad F L lv AV KV W)(b:Bq W W'):uw W0 rb B s D m i bad F L lv AV KV W':=h.to (h.j.bel b) ⟨LE,id,dm b⟩
def oN.dep(h:oN W0 rb B s D i bad F L W):∃d,W.cell? (aq rb 6)=some (Iq d)/\W.frozen? (aq rb 6)=false/\D<=i/\∀(z:Int) (f:Nat),f<=i->(d=D->z=f)->oN W0 rb B s f i bad F L (W.setCell (aq rb 6) (Iq z)):=by obtain⟨lv,AV,KV,h⟩:=h;obtain⟨d,k,l,_⟩:=h.j.r;refine⟨d,k,l 6,h.dl,λz f o p=>⟨lv,AV,KV,h.j.chg At (λj _ k=>cu _ _ _ _ λq=>k (by simpa using q.symm)) (aF (by decide) h.j.c.2.1) (λd' e=>⟨z,ff e,λa b q=>⟨q.1,p ?_⟩⟩) λj=>eS _ _ _ _,o,h.d.up (Up.set _ h.b.1 _),h.le,h.g,⟨h.b.1,by simpa[World.setCell]using h.b.2⟩,h.fr.trans (Fr.set _ _)⟩⟩;rw[k]at e;cases e;exact q.2
def BM{k:Nat}(h:¬k<L.length):(ae L k).kids=[]:=by unfold ae;rw[List.getElem?_eq_none dg];rfl
def Ea(h:∀k,(ae L k).kids.length<=L.length){d:Nd}(a:d.kids=[])(hu:d.up=-1\/∃j:Nat,d.up=j/\j<L.length)(k:Nat):(ae (grown L d) k).kids.length<=(grown L d).length:=by
 by_cases c:k<(grown L d).length;rotate_right;.rw[BM c];exact LT
 rw[cN]at c|-;have:=h k;rcases hu with hu|⟨j,hu,b⟩
 .have e:grown L d=L++[d]:=by unfold grown;rw[if_pos (by rw[hu];decide)]
  rw[e];by_cases q:k<L.length;.rw[bF q];omega
  .obtain rfl:k=L.length:=dg;rw[bS,a];simp
 .rw[gT L d j hu b];by_cases e:k=j;.subst e;rw[aL _ (by simp;omega),bF b];simp;omega
  .rw[aD _ e];by_cases q:k<L.length;.rw[bF q];omega
   .obtain rfl:k=L.length:=dg;rw[bS,a];simp
def oN.text(h:oN W0 rb B s D i bad F L W){k:Nat}(p:k<L.length):∃g a,W.cell? (aq rb 2)=some (Sq g L.length a)/\(∃u,W.cell? (aq g (k*5+2))=some u)/\W.frozen? (aq g (k*5+2))=false/\L.length<=a/\g≠rb/\∀t:BY,oN W0 rb B s D i bad F (ao L k t.data.toList) (W.setCell (aq g (k*5+2)) (.string t)):=by
 obtain⟨lv,AV,KV,h⟩:=h;have hd:=h.d;obtain⟨g,a,rfl,o,w,v,_⟩:=hd.nr.form dg;have r:=h.b.1;refine⟨g,a,h.j.c.2.1,⟨_,hd.nr.cell p rfl⟩,hd.nr.frozen _,v,dg,λt=>?_⟩;have f:=cM W g (k*5+2) (.string t);have l:(ao L k t.data.toList).length=L.length:=by unfold ao;simp
 refine⟨Sq g L.length a,AV,KV,h.j.far f (by simp;omega),h.dl,hd.setText p t.data.toList,by rw[l];exact h.le,λq=>?_,⟨r,by simpa[World.setCell]using h.b.2⟩,h.fr.trans (Fr.own f h.b.2 λq e=>by cases e;exact o)⟩;rw[l];have:=h.g q;unfold ao;by_cases e:q=k;.subst e;rw[aL _ p];exact this
 .rw[aD _ e];exact this
def MN{wc w3:AT}{g t A j c:Nat}{d:Fd}{r:zza}{f:Nat->Nat}{l:Nat->Fd}{z:zze}{w:Nat}{b:zzh}(E:RD wc B (Sq g t A) r f l)(N:r.length=t)(y:B<=wc.heap.size)(H:B<=g)(C:j<t)(K:l j=.slice z b.length w)(M:(ae r j).kids=b)(o:Obj)(Q:w3.ownsRow B 3 1 d (b.length+1) (gU b++[Iq (c:Int)]))(J:((wc.alloc o).drew).grownBy w3 (Value.slice z b.length w).ownBlock)(I:d.ownBlock=(Value.slice z b.length w).ownBlock\/d.ownBlock=some ((wc.alloc o).drew).heap.size):
 ∃v,RD (w3.setCell (aq g (j*5+3)) d) B (Sq g t A) (r.modify j λu=>{u with kids:=u.kids++[c]}) f v/\∀rb,Fr B rb wc (w3.setCell (aq g (j*5+3)) d):=by subst N;have p:=E.nr.kids j C;rw[K]at p;have a:Bq wc (wc.alloc o).drew:=cE ((ac wc.heap.size wc).alloc LE o) 1;have h:∀rb,Fr B rb wc w3:=λrb=>(Fr.below a y).trans (Fr.own J (aA y a.size) (λg e=>(p.lt g e).1));exact⟨_,(E.up (Up.below (B:=B) a)).kid (k:=j) (c:=c) (W':=w3) (kv':=d) C (by grind[gU]) rn rn,λrb=>(h rb).trans (Fr.own (cM w3 g _ _) (aA y (h rb).size) (λq e=>rn))⟩
def FQ{v h c b:Int}{y i8 A f j:Nat}{t u:zza}{p r:dM}{C:PS->Except Nat PS}(w:¬j<3/\j<5)(l:Fi v (cG s y 91) i8 h)(o:Fi h (C ⟨i8,t,p⟩) ⟨A,u,r⟩ c)(g:Fi c (cG s A 93) f b)(E:c<0->h<0)(a:b<0->c<0):Fi v (dP s j n C ⟨y,t,p⟩) ⟨f,u,r⟩ b:=λq=>by
 unfold dP;rw[if_neg w.1,if_pos w.2];simp only;refine⟨λz=>by rw[(l q).1 (E (a z))];simp only;rw[(o (E (a z))).1 (a z)];simp only;rw[(g (a z)).1 z],λz=>?_⟩;by_cases k:h<0
 .rw[(l q).1 k];simp only;by_cases G:c<0;.rw[(o k).1 G];simp only;obtain⟨e,d⟩:=(g G).2 z;exact⟨e,by rw[d]⟩
  .obtain⟨e,d⟩:=(o k).2 dg;exact⟨e,by rw[d]⟩
 .obtain⟨e,d⟩:=(l q).2 dg;exact⟨e,by rw[d]⟩
def Gt(h:oN W0 rb B s D i bad F L W)(c:s.size<=4000):Cw 81 #[Pq rb] W λe w'=>∃t,e=Rw (.string t)/\t.size<=4000/\R9 W0 rb B s D i bad F L (SI s i bad t) w':=by obtain⟨_,_,_,h⟩:=h;exact(Le h.j c).mono λe w' ⟨t,a,b,E⟩=>⟨t,a,b,h.o E⟩
def LC:(prog.info? 176).map (λi=>(i.zero,i.size,i.bytes))=some (some (.agg #[Iq 0,.slice none 0 0,.string ⟨#[]⟩,.slice none 0 0,Iq 0]),5,80):=pt
def QL{f:Nat}(hN:R_ rb B s f)(hs:s.size<=4000):R_ rb B s (f+1):=by
 intro up W0 w D i bad F L h zF hf;obtain⟨lv,AV,KV,h⟩:=h;obtain⟨n,zC⟩:=af L.length;have k:=qH zC;rw[zC]at zF;obtain⟨R,Q⟩:=af (dn s (f+1) up D ⟨i,L,F⟩);rw[Q];unfold dn at Q;simp only at Q;replace Q:=qH Q;replace h:=qH h;replace hN:=qH hN;clear zC;go_enter func37,ntmps37;go_wp2_with fail;refine Ut (rO h.out.j hs) ?_;rintro w1 E1;obtain⟨o,b1,⟨U,rfl⟩,l1,_,H1⟩:=h.out.on E1;have c1:=H1.j.c.1;have Vy:=H1.le;have _2:=h.out.dl;rw[k.out]at Vy;replace H1:=qH (H1.wk l1);rw[<-U]at Q;have zJ:Hid (sk s o=o):=qH<|by rw[U,jq]
 clear E1 h U;go_wp2_with fail;clear c1;refine(NJ H1.out.j hs).mono ?_;rintro e w2 ⟨tx,rfl,E2⟩;obtain⟨i2,b2,x2,l2,p2,H2⟩:=H1.out.on E2;rw[zJ.out]at x2;replace H2:=qH H2;clear E2 H1 zJ;go_wp2_with fail;refine(ty w2).1.mono ?_;rintro e w3 ⟨rfl,g3,k3,b3⟩;have Z:=qH (H2.out.below b3);have FN:=qH (uX cK tx w2.heap.size 0 7 7 w3 g3 (λj hj=>by rw[b_,(k3 j hj).1];simp[hj]) rfl dg);obtain⟨kd,zj⟩:=af (aB cK tx 0);have zP:=gS tx cK 0;rw[zj]at FN zP;simp only[show cK.length=7 from rfl]at zP;have RB:Hid (b1<0->0<=b2\/kd<0->∃e,R=.error e):=λq z=>by
  have y:run am s o=o\/aB cK (s.extract o (run am s o)) 0<0:=by
   by_cases w:b2<0;.obtain⟨_,y2,y3⟩:=(x2 q).1 w;rw[y2]at y3;rw[<-y3,zj];exact .inr dg
   .exact .inl ((x2 q).2 dg)
  exact⟨_,by rw[<-Q.out,if_pos y]⟩
 clear b3 H2 k3;go_wp2_with fail;refine Ut FN.out ?_;rintro w4 Zm;obtain rfl:=Zm.symm;clear FN;by_cases Y:kd<0;.go_wp2_with fail;refine Ut (rM Z.out.j (o:Int) dg) ?_;rintro w5 E5;obtain⟨i5,b5,⟨_,z⟩,l5,_,N⟩:=Z.out.on E5;have c3:=N.j.c.2.2;have zA:=decide_eq_true z;replace N:=qH (N.wk (by omega:o<=i5));clear E5;go_wp2;refine bodyPost_ret (results_none rfl _ _ _) rfl ?_;exact⟨rfl,i5,b5,F,L,⟨_,_,_,N⟩,dg,LE,λe=>dg,λq=>⟨λz=>dg,λ_=>RB.out q (.inr Y)⟩⟩
 obtain⟨kn,rfl⟩:=db (by omega:0<=kd);have _Z:decide ((kn:Int)<0)=false:=decide_eq_false Y;have c3:=Z.out.j.c.2.2;by_cases hb:0<=b2;.have zA:=decide_eq_true hb;have H4:=qH (Z.out.wk l2);go_wp2;refine bodyPost_ret (results_none rfl _ _ _) rfl ?_;exact⟨rfl,i2,b2,F,L,⟨_,_,_,H4⟩,dg,LE,λe=>dg,λq=>⟨λz=>dg,λ_=>RB.out q (.inl hb)⟩⟩
 have zA:decide ((0:Int)<=b2)=false:=decide_eq_false hb;have M:b2<0:=dg;have zo:=p2 M;obtain⟨y1,y2,y3⟩:=(x2 zo).1 M;have hi:o<i2:=by have:=ga am s o;omega
 obtain⟨bm,zQ⟩:=af (decide ((100:Int)<=(n:Int)));obtain⟨bp,zR⟩:=af (decide ((12:Int)<=(D:Int)));obtain⟨F1,zg⟩:=af (bN bm F 3 o);obtain⟨F2,zh⟩:=af (bN bp F1 4 o);replace Q:=Q.out;rw[y2]at y3;rw[<-y3,<-y2,zj,if_neg (by rw[y2];rintro(e|e);exact y1 e;omega),iO,k.out,show decide (100<=n)=bm by rw[<-zQ];exact decide_eq_decide.2 dg,zg,show decide (12<=D)=bp by rw[<-zR];exact decide_eq_decide.2 dg,zh]at Q;have HR:=qH Q;obtain⟨pn,cn,rfl⟩:∃p c,lv=.slice p n c:=by have:=dt Z.out.d.nr.row.choose_spec;rwa[k.out]at this
 have c2:=Z.out.j.c.2.1;clear Y x2 p2 hb Q RB y1 y2 y3 zj;go_upto_if 36 with fail;clear c2 c3 zA;go_cut[36,39]from 37 to 38 (λ_ _ l=>Hid (uw W0 rb B s D o i2 b2 F1 L (.slice pn n cn) AV KV l))
 .cases bm;.go_wp2_with fail;go_meet;rw[<-zg];exact Z
  .go_wp2_with fail;refine Ut (yk Z.out.j ((3:Nat):Int) o (EF.wr 3 LE)) ?_;rintro wn ⟨z1,z2⟩;have N:=qH (Z.out.to z1 z2);clear z1 z2;go_wp2_with fail;go_meet;rw[<-zg];exact N
 have N:=hcut;obtain⟨dep,c6,_,_,z6⟩:=N.out.j.r;obtain⟨_,_,z7⟩:=z6 M;obtain rfl:=z7.2;clear hcut Z z6 z7 zg zQ;go_upto_if 44 with fail;clear c6;go_cut[44,47]from 45 to 46 (λ_ _ l=>Hid (uw W0 rb B s D o i2 b2 F2 L (.slice pn n cn) AV KV l))
 .cases bp;.go_wp2_with fail;go_meet;rw[<-zh];exact N
  .go_wp2_with fail;refine Ut (yk N.out.j ((4:Nat):Int) o (EF.wr 4 LE)) ?_;rintro wn ⟨z1,z2⟩;have C:=qH (N.out.to z1 z2);clear z1 z2;go_wp2_with fail;go_meet;rw[<-zh];exact C
 have C:=qH (hcut.out.wk l2);have c2:=C.out.j.c.2.1;have KI:=qH (C.out.d.ids C.out.b.1);have zD:L.length<=4000:=by have:=C.out.le;have:=C.out.j.1;omega
 clear hcut N zh zR;go_wp2_with fail;clear c2;refine(OB C.out.j hs (zz006 C.out.b.1 C.out.b.2) kn dg KI.out zD).mono ?_;rintro e w7 ⟨ab,a,H,A,J,rfl,zN,Yt,zl,j7,d7,x7⟩;have O:=C.out.to j7 d7;have l7:=d7.1;have P7:=qH d7.2.1;obtain⟨I,zi⟩:=af (grown L ⟨kn,a,[],[],up⟩);have zw:Hid ((J<0->R=dP s kn n (dn s f n (D+1)) ⟨A,I,H⟩)/\(0<=J->∃e,R=.error e)):=by rw[<-zi];refine⟨λq=>by rw[<-HR.out,(x7 M).1 q],λq=>?_⟩;obtain⟨e,he⟩:=(x7 M).2 q;exact⟨e,by rw[<-HR.out,he]⟩
 have zr:Hid (I.length=n+1):=qH<|by rw[<-zi,cN,k.out]
 have zv:Hid ((∀j,j<L.length->(KV j).ownBlock≠some ab)/\(Value.slice pn n cn).ownBlock≠some ab):=by obtain⟨xs,hx⟩:=C.out.d.nr.row;exact⟨λj hj e=>by have:=((C.out.d.nr.kids j hj).lt ab e).2;omega,λe=>by have:=(hx.lt ab e).2;omega⟩
 have zt:Hid (∀l lv AV KV,EJ rb s lv (EF H A D) A J l->RD l B lv (grown L ⟨kn,a,[],[],up⟩) AV KV->Fr B rb W0 l->B<=l.heap.size->oN W0 rb B s D A J H I l):=λl lv AV KV h1 h2 h3 h4=>by rw[<-zi];exact⟨lv,AV,KV,h1,O.dl,h2,by rw[cN,k.out];omega,Ea O.g rfl (by rw[k.out];exact zF),⟨O.b.1,h4⟩,h3⟩
 have Wj:Hid (B<=ab):=aA C.out.b.2 zN;obtain⟨i0,zV,Q0,PZ,Sx⟩:=info_parts LC;obtain⟨xs,zG⟩:=O.d.nr.row;have Ws:=qH O.g;have ze:=qH O.b;have HX:Hid (w7.ownsRow B 176 5 (.slice pn n cn) n xs):=by rw[k.out]at zG;exact zG
 have c2:=O.j.c.2.1;have VF:=O.j.r.choose_spec.2.2.1;have hn5:n<=4000:=by rw[<-k.out];exact zD
 replace O:=qH O;replace zl:=qH zl;clear zG zN C KI x7 HR zi j7 d7 zD;go_upto_region 13 with fail;go_cut[8]from 56 to 68 (λv l=>v=Sq ab 12 12/\∃p1 q1,Hid (∃zq zx,EJ rb s (.slice p1 (n+1) q1) (EF H A D) A J l/\RD l B (.slice p1 (n+1) q1) (L++[⟨kn,a,[],[],up⟩]) zq zx/\Fr B rb W0 l/\B<=l.heap.size))
 .go_wp2_with(at_builtin;refine wpList_append_own_at _ rfl _ _ 51 rfl B 176 i0 _ 5 80 underlying51 zV Q0 PZ Sx rfl (by decide) _ _ _ rfl (HX.out.alloc _) _ 1 1 (jQ ⟨kn,a,[],[],up⟩ (Sl ab) (.slice none 0 0)) rfl rfl (gP _ _ _ _ rfl) (by intro u hu;unfold jQ Sl at hu;simp at hu;rcases hu with rfl|rfl|rfl|rfl|rfl<;>rfl) (by unfold maxLen;omega) dg (by rw[ai];have:=ze.out.2;omega) ?_);intro v1 w8 o8 g8 _ zn;obtain⟨p1,q1,Zi⟩:=dt o8;subst Zi;have bA:=(ac w7.heap.size w7).alloc LE (.cells #[Iq (kn:Int),Sq ab 12 12,.string ⟨#[]⟩,.slice none 0 0,Iq up] 176);have E:=O.out.below bA;have zY:(Value.slice pn n cn).ownBlock≠some rb:=λe=>by have:=(HX.out.lt rb e).1;have:=ze.out.1;omega
  have J8:=qH (E.j.far g8 zY);have D8:=qH (RD.app (nv':=.slice p1 (n+1) q1) (d:=⟨kn,a,[],[],up⟩) E.d (by rw[k.out];exact HX.out.alloc _) (by rw[k.out];exact o8) g8 (by rw[ai];exact zn) Yt rfl Wj (zl.out.below bA) zv.out.1 zv.out.2);have F8:Hid (Fr B rb W0 w8/\B<=w8.heap.size):=⟨E.fr.trans (Fr.own g8 E.b.2 λg e=>(HX.out.lt g e).1),aA E.b.2 g8.size⟩;have k2:=J8.out.c.2.1;have kf:=J8.out.r.choose_spec.2.1 2;obtain⟨w9,Zo⟩:=af (w8.setCell (aq rb 2) (.slice p1 (n+1) q1));have HQ:Hid (∃zq zx,EJ rb s (.slice p1 (n+1) q1) (EF H A D) A J w9/\RD w9 B (.slice p1 (n+1) q1) (L++[⟨kn,a,[],[],up⟩]) zq zx/\Fr B rb W0 w9/\B<=w9.heap.size):=by rw[<-Zo];exact⟨_,_,J8.out.setL _,D8.out.up (Up.set _ ze.out.1 _),F8.out.1.trans (Fr.set _ _),by simpa[World.setCell]using F8.out.2⟩
  clear o8 g8 zn bA E J8 D8 F8 zY;go_wp2_with fail;go_meet;exact⟨rfl,p1,q1,HQ⟩
 obtain⟨rfl,p1,q1,HM⟩:=hcut;clear HX c2 zV Q0 PZ Sx O zl zv;go_upto_if 70 with fail;go_cut[70,88]from 71 to 87 (λ_ _ l=>Hid (oN W0 rb B s D A J H I l))
 .obtain⟨zI,zM,r8,d8,f8,S⟩:=HM.out;rcases zF with rfl|⟨j,rfl,hj⟩;.have HO:Hid (oN W0 rb B s D A J H I wc):=zt.out wc _ zI zM r8 (by unfold grown;rw[if_pos (show(-1:Int)<0 by decide)];exact d8) f8 S;clear r8 d8 f8 S;go_wp2_with fail;go_meet;exact HO
  .obtain⟨L1,T⟩:=af (L++[(⟨kn,a,[],[],(j:Int)⟩:Nd)]);have Wu:Hid (grown L ⟨kn,a,[],[],(j:Int)⟩=L1.modify j λu=>{u with kids:=u.kids++[L.length]}):=qH<|by rw[<-T];exact gT L _ j rfl (by rw[k.out];exact hj)
   have zB:L1.length=n+1:=by rw[<-T];simp[k.out]
   have Yo:(ae L1 j).kids.length<=4000:=by rw[<-T,bF (by rw[k.out];exact hj)];have:=Ws.out j;rw[k.out]at this;omega
   rw[T]at d8;clear T;obtain⟨g,cap,hv,XM,zT,_,_⟩:=d8.nr.form dg;simp only[zB,sK,true_and]at hv;obtain⟨rfl,rfl⟩:=hv;have zX:j<L1.length:=dg;have X:=d8.nr.kids j zX;obtain⟨pk,ck,V⟩:=dt X;obtain⟨ks,zk⟩:=af ((ae L1 j).kids);rw[V,zk]at X;rw[zk]at V Yo;have zL:=qH X;have XG:wc.cell? (aq g (j*5+3))=some (.slice pk ks.length ck):=by rw[<-V];exact d8.nr.cells g rfl j zX 3 (zM j) rfl
   have zK:Hid (some g≠(Value.slice pk ks.length ck).ownBlock):=by
    obtain⟨ys,Zv⟩:=d8.nr.row;rcases dJ (v':=Sq g (n+1) q1) X Zv (by decide)with e|e;.show some g≠_;rw[e];simp
    .exact λe2=>e e2.symm
   have hrb:=ze.out.1;have zU:g≠rb:=dg;have f14:wc.frozen? (aq g (j*5+3))=false:=d8.nr.frz rfl (j*5+3);have c2:=r8.c.2.1;have Yl:(j:Int)<((n+1:Nat):Int):=dg;have Vp:(j:Int)<(n:Int)+1:=dg;have Y3:=r8.r.choose_spec.2.2.1;have Y1:Hid ((Value.slice pk ks.length ck).ownBlock≠some rb):=λe=>by have:=(zL.out.lt rb e).1;omega
   have D8:=qH d8;have R8:=qH r8;have F8:=qH f8;have Wv:=qH V;have Wx:=qH zk;have Wy:=qH zB;obtain⟨o,U,Zu,VM,VN⟩:=info_parts xr;clear X d8 V zk r8 f8 zB HM;go_wp2_with fail;go_region_law(refine gd rfl (.tmp 83) (.tmp 85) 26 rfl B 3 o (Iq 0) 1 8 underlying26 U Zu VM VN rfl (by decide) (.slice pk ks.length ck) ks.length (gU ks) (by simp[Act.eval]) (qG (w:=wc.drew) zL _) _ 1 1 [Iq (n:Int)] (by simp[Act.eval]) rfl (gP _ _ _ _ rfl) (by intro u hu;simp at hu;subst hu;rfl) (by unfold maxLen;omega) dg (by simp;omega) ?_;intro v' w3 G hg zO;obtain⟨ZW,XC,Zh⟩:=dt G;subst Zh;have zu:=qH (EJ.far (R8.out.bel (cE No 1)) hg Y1);have k3:=zu.out.c.2.1;have zy:=(hg.block g (zz006 zT At) zK).trans (heap_alloc_old _ _ zT);have ZL:=(aQ zy).trans XG;have Uj:=(kE zy).trans f14);all_goals
    have HO:Hid (oN W0 rb B s D A J H I (w3.setCell (aq g (j*5+3)) (.slice ZW (ks.length+1) XC))):=by obtain⟨Xs,z2,z3⟩:=MN (c:=n) D8.out Wy.out S XM dg Wv.out Wx.out _ G hg zO;exact zt.out _ _ zI Xs (zu.out.far (cM w3 g _ _) (by simpa using zU)) (by rw[Wu.out,k.out];exact z2) (F8.out.trans (z3 rb)) (aA S (z3 rb).size)
    clear zu hg zO G k3 zy ZL Uj;go_wp2_with fail;go_meet;exact HO
 obtain⟨zm,c6,z6,_,hD⟩:=hcut.out.dep;have HE:Hid (∀z:Int,(zm=D->z=((D+1:Nat):Int))->oN W0 rb B s (D+1) A J H I (wc.setCell (aq rb 6) (Iq z))):=λz=>hD z (D+1) dg;have Yg:s.size<f+A:=dg;have zE:n<I.length:=by rw[zr.out];omega
 have i74:=hcut.out.c.2.2;clear hcut HM zt hD;go_upto_block 0 with fail;replace HE:=qH (HE.out (wrap64 (zm+1)) λe=>by unfold wrap64;omega);clear c6 z6;go_cut[9]from 97 to 125 (λ_ l=>Hid (Qa W0 rb B s (D+1) A I J (dP s kn n (dn s f n (D+1)) ⟨A,I,H⟩) l))
 .have K3:=qH λh=>QJ (kd:=kn) hN.out hs HE.out zE Yg h;rcases(by omega:kn=0\/kn=1\/kn=2\/kn=3\/kn=4\/kn=5\/kn=6)with rfl|rfl|rfl|rfl|rfl|rfl|rfl;iterate 3 ·go_wp2_with fail;refine Ut (K3.out (by decide)) ?_;rintro we K;go_wp2_with fail;go_meet;exact K
  iterate 2 ·go_wp2_with fail;refine Ut (tz HE.out hs 91) ?_;rintro we ⟨i8,S,x8,l8,p8,E⟩;go_wp2_with fail;refine Ut (hN.out (n:Int) W0 we (D+1) i8 S H I E (.inr ⟨n,rfl,zE⟩) dg) ?_;rintro wg K;obtain⟨i9,b9,F9,L9,H9,l9,m9,p9,x9⟩:=K.out;go_wp2_with fail;refine Ut (tz H9 hs 93) ?_;rintro wh ⟨Zx,XA,V_,l10,zH,Wi⟩;have HO:Hid (∀kd,¬kd<3/\kd<5->Qa W0 rb B s (D+1) A I J (dP s kd n (dn s f n (D+1)) ⟨A,I,H⟩) wh):=λkd hk=>⟨Zx,XA,F9,L9,Wi,dg,m9,λe=>p8.out (p9 (zH.out e)),FQ hk x8.out x9 V_.out p9 zH.out⟩;clear K H9 p9 p8 x8 x9 V_ zH;go_wp2_with fail;go_meet;exact HO.out _ (by decide)
  .go_wp2_with fail;refine(Gt HE.out hs).mono ?_;rintro e we ⟨t,rfl,ht,i8,S,x8,l8,p8,E⟩;obtain⟨gb,cap,c2,⟨u2,d2⟩,z2,zS,zU,zZ⟩:=E.out.text zE;have WT:=qH (zZ t);rw[zr.out]at c2 zS;have Sp:(n:Int)<((n+1:Nat):Int):=dg;have Yx:(n:Int)<(n:Int)+1:=dg;clear E zZ;go_wp2_with fail;go_meet;exact⟨i8,S,H,_,WT,dg,by unfold ao;simp,p8,λq=>⟨λz=>by unfold dP;simp only[(x8.out q).1 z];rfl,λz=>by obtain⟨e,he⟩:=(x8.out q).2 z;unfold dP;simp only[he];exact⟨e,rfl⟩⟩⟩
  .go_wp2_with fail;go_meet;exact⟨A,J,H,I,HE.out,LE,LE,id,λq=>⟨λ_=>rfl,λz=>dg⟩⟩
 obtain⟨i8,S,F8,L8,E,l8,m8,p8,x8⟩:=id hcut.out;obtain⟨XF,c6,z6,_,hD⟩:=E.dep;have i84:=E.c.2.2;have Wn:=qH (hD · D dg);have HX:Hid (Fi b2 R ⟨i8,L8,F8⟩ S):=λ_=>⟨λz=>(zw.out.1 (p8 z)).trans ((x8 (p8 z)).1 z),λz=>by
  by_cases w:J<0;.rw[zw.out.1 w];exact(x8 w).2 z
  .exact zw.out.2 dg⟩;have Wz:L.length<=L8.length:=by rw[k.out];have:=zr.out;omega
 clear hcut E p8 x8 hD;go_wp2;go_end0;exact⟨rfl,i8,S,F8,L8,Wn.out _ λe=>by unfold wrap64;omega,dg,Wz,λ_=>zo,λ_=>HX.out M⟩
end
