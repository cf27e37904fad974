import Derived.Test.YtehgehanbnkdiaaGreatDoorQ02
import Derived.Test.YtehgehanbnkdiaaGreatDoorQ08
set_option linter.all false
set_option maxRecDepth 100000
set_option maxHeartbeats 16000000
namespace Go.Proofs.YtehgehanbnkdiaaGreatDoor
open Go.RowKit Go.Proofs.Tryz
def EJ(rb:Nat)(s:BY)(lv:Fd)(P:Int->Int->Int->Prop)(i:Nat)(bad:Int)(w:AT):Prop:=i<=s.size/\∃er at_ dep,RS w rb s i lv bad er at_ dep/\(bad<0->P er at_ dep)
def ED(rb i:Nat)(bad:Int)(w:AT)(i':Nat)(aS:Int)(w':AT):Prop:=i<=i'/\(aS<0->bad<0)/\w.grownBy w' (some rb)
def EE(rb:Nat)(s:BY)(lv:Fd)(P:Int->Int->Int->Prop)(i:Nat)(bad:Int)(w:AT)(x:Nat->Int->Prop)(w':AT):Prop:=∃i' aS,EJ rb s lv P i' aS w'/\ED rb i bad w i' aS w'/\x i' aS
def Fi{α:Type}(bad:Int)(r:Except Nat α)(v:α)(aS:Int):Prop:=bad<0->(aS<0->r=.ok v)/\(0<=aS->∃e,r=.error e)
section
variable{rb i j:Nat} {s:BY} {lv:Fd} {P P':Int->Int->Int->Prop} {bad aS:Int} {w w' w2:AT} {x y:Nat->Int->Prop}
def ED.refl:ED rb i bad w i bad w:=⟨LE,id,gs _ _⟩
def ED.trans{k:Nat}{b:Int}(h:ED rb i bad w j aS w')(c:ED rb j aS w' k b w2):ED rb i bad w k b w2:=⟨aA h.1 c.1,λe=>h.2.1 (c.2.1 e),gr_trans h.2.2 c.2.2⟩
def EE.on(h:ED rb i bad w j aS w')(k:EE rb s lv P j aS w' x w2)(q:∀a b,x a b->y a b):EE rb s lv P i bad w y w2:=by obtain⟨a,b,c,d,e⟩:=k;exact⟨a,b,c,h.trans d,q a b e⟩
def EJ.dr(h:EJ rb s lv P i bad w)(q:Nat):EJ rb s lv P i bad (w.drewN q):=by obtain⟨h,c,at_,b,r,e⟩:=h;exact⟨h,c,at_,b,r.drewN q,e⟩
def ED.dr(h:ED rb i bad w j aS w')(q:Nat):ED rb i bad w j aS (w'.drewN q):=⟨h.1,h.2.1,gr_trans h.2.2 (bi _ _ _)⟩
def EJ.mono(h:EJ rb s lv P i bad w)(g:∀a b c,P a b c->P' a b c):EJ rb s lv P' i bad w:=by obtain⟨h,f,at_,d,r,e⟩:=h;exact⟨h,f,at_,d,r,λq=>g _ _ _ (e q)⟩
def I9{c at_ b:Int}(h:RS w rb s i lv bad c at_ b)(q:Nat):RS ((w.drewN q).setCell (aq rb 1) (Iq ((i:Int)+1))) rb s (i+1) lv bad c at_ b:=by have:=(h.drewN q).setI (i+1);rwa[show((i+1:Nat):Int)=(i:Int)+1 by omega]at this
def pu(w:AT)(rb q:Nat)(v:Fd):w.grownBy ((w.drewN q).setCell (aq rb 1) v) (some rb):=gr_trans (bi _ _ _) (cM _ _ _ _)
def o7(x:Int)(a b:Int):(x==a)=true\/((x==a)=false/\(x==b)=true)\/((x==a)=false/\(x==b)=false):=by cases c:(x==a)<;>cases d:(x==b)<;>simp
def ti(x c:Nat):((x:Int)==(c:Int))=(x==c):=by rw[sM];simp;omega
def rO(h:EJ rb s lv P i bad w)(I:s.size<=4000):Cw 38 #[Pq rb] w λe w'=>e=Rw (.tuple #[])/\EE rb s lv P i bad w (λj b=>j=sk s i/\b=bad) w':=by
 obtain⟨hi,v,at_,g,h,r⟩:=h;replace h:=qH h;replace r:=qH r;go_enter func38,ntmps38;go_wp2;go_loopw[2] (λ_ wr=>∃k:Nat,i<=k/\k<=s.size/\Hid (RS wr rb s k lv bad v at_ g/\w.grownBy wr (some rb)/\sk s k=sk s i)) (λ_ wr=>s.size-rdI wr rb);.exact⟨i,LE,hi,h,gs _ _,rfl⟩
 obtain⟨k,G,C,c⟩:=hrel;have H:=c.1.c0;have c1:=c.1.c1;have f1:=c.1.fz 1;have z:=qH c.1.rdI;have t:=qH (I9 c.1);have A:Hid (blank (cR s k)=false->∀q,EE rb s lv P i bad w (λj b=>j=sk s i/\b=bad) (wr.drewN q)):=λe q=>⟨k,bad,⟨C,v,at_,g,c.1.drewN q,r⟩,⟨G,id,gr_trans c.2.1 (bi _ _ _)⟩,(g_ e).symm.trans c.2.2,rfl⟩;have B:Hid (blank (cR s k)=true->k<s.size->sk s (k+1)=sk s i):=λe l=>(gZ l e).symm.trans c.2.2;by_cases d:k<s.size;focus
  have o:(k:Int)<(s.size:Int):=dg;obtain⟨x,E⟩:=af (s[k].toNat);have f:Hid (blank (cR s k)=((x:Int)==32||(x:Int)==10)):=qH<|by rw[dN d,E];exact congr (congrArg or (ti x 32).symm) (ti x 10).symm
  rcases o7 (x:Int) 32 10 with n|⟨n,p⟩|⟨n,p⟩
 rotate_right;focus have o:¬(k:Int)<(s.size:Int):=dg;have f:Hid (blank (cR s k)=false):=qH<|by rw[df d];rfl
 all_goals
  go_wp2_with fail;go_quiet(fail);go_wp2;first
   |(go_end0;exact⟨rfl,A (by first|exact f|(rw[f.out,n,p];rfl)) _⟩)
   |(go_roundw;(case rel=>exact⟨k+1,dg,dg,t _,gr_trans c.2.1 (pu _ _ _ _),B (by first|(rw[f.out,n];rfl)|(rw[f.out,n,p];rfl)) d⟩);(case measure=>(rw[(t _).rdI,z.out];omega)))
def rM(h:EJ rb s lv P i bad w)(a:Int)(k:0<=a):Cw 39 #[Pq rb,Iq a] w λe w'=>e=Rw (.tuple #[])/\EE rb s lv P i bad w (λj b=>j=i/\0<=b) w':=by
 obtain⟨hi,g,at_,c,h,d⟩:=h;have c3:=h.c3;have f3:=h.fz 3;replace h:=qH h;replace d:=qH d;by_cases l:bad<0;all_goals
  have f:=qH l;go_enter func39,ntmps39;go_wp2;go_end0;first
   |exact⟨rfl,i,a,⟨hi,g,at_,c,h.setBad a,λq=>absurd q dg⟩,⟨LE,λ_=>f,cM _ _ _ _⟩,rfl,k⟩
   |exact⟨rfl,i,bad,⟨hi,g,at_,c,h,d⟩,ED.refl,rfl,by have:=f.out;omega⟩
def yk(h:EJ rb s lv P i bad w)(e:Int)(a:Nat)(k:∀r t d,P r t d->if t<0\/(a:Int)<t then P' e a d else P' r t d):Cw 77 #[Pq rb,Iq e,Iq (a:Int)] w λr w'=>r=Rw (.tuple #[])/\EJ rb s lv P' i bad w'/\ED rb i bad w i bad w':=by
 obtain⟨hi,f,at_,b,h,l⟩:=h;have c5:=h.c5;have c4:=h.c4;have f4:=h.fz 4;have f5:=h.fz 5;replace h:=qH h;have c:Hid (bad<0->if at_<0\/(a:Int)<at_ then P' e a b else P' f at_ b):=λq=>k _ _ _ (l q);clear l k;rcases(by omega:at_<0\/(¬at_<0/\(a:Int)<at_)\/(¬at_<0/\¬(a:Int)<at_))with g|⟨g,n⟩|⟨g,n⟩;all_goals
  go_enter func77,ntmps77;go_wp2;go_end0;first
   |exact⟨rfl,⟨hi,e,a,b,h.setErr e a,λq=>by have:=c.out q;rwa[if_pos dg]at this⟩,LE,id,gr_trans (cM _ _ _ _) (cM _ _ _ _)⟩
   |exact⟨rfl,⟨hi,f,at_,b,h,λq=>by have:=c.out q;rwa[if_neg dg]at this⟩,ED.refl⟩
def Lc(h:EJ rb s lv P i bad w)(I:s.size<=4000)(c:Nat)(N:c<256:=by decide):Cw 118 #[Pq rb,.int .u8 (c:Int)] w λe w'=>∃b:Bool,e=Rw (.bool b)/\EE rb s lv P i bad w (λj r=>r=bad/\(bad<0->b=aK s i c/\j=an s i c)/\(b=true->bad<0/\i<j)) w':=by
 have CS:=qH (rO h I);clear h;go_enter func118,ntmps118;go_wp2_with fail;refine Ut CS ?_;rintro L ⟨j,aS,⟨H,z,at_,k,f,p⟩,⟨K,-,o⟩,g,rfl⟩;have M:=f.c0;have c1:=f.c1;have c3:=f.c3;have f1:=f.fz 1;replace p:=qH p;have B:=qH (I9 f);have A:Hid ((aS<0->(cR s j==c)=false)->∀q,EE rb s lv P i aS w (λj r=>r=aS/\(aS<0->false=aK s i c/\j=an s i c)/\(false=true->aS<0/\i<j)) (L.drewN q)):=λe q=>⟨j,aS,⟨H,z,at_,k,f.drewN q,p⟩,⟨K,id,gr_trans o (bi _ _ _)⟩,rfl,λb=>by unfold aK an;have:=e b;rw[<-g,this];exact⟨rfl,by rw[if_neg (by simpa using this)]⟩,λe=>by cases e⟩;have C:Hid ((cR s j==c)=true->true=aK s i c/\j+1=an s i c):=λe=>by unfold aK an;rw[<-g,e];exact⟨rfl,by rw[if_pos (by simpa using e)]⟩
 replace o:=qH o;clear f CS g;by_cases t:aS<0;focus
  have E:=decide_eq_true t;by_cases l:j<s.size;focus
   have d:(j:Int)<(s.size:Int):=dg;have G:=decide_eq_true d;obtain⟨x,J⟩:=af (s[j].toNat);have n:Hid ((cR s j==c)=((x:Int)==(c:Int))):=qH<|by rw[dN l,J,ti]
   obtain⟨b,v⟩:=af ((x:Int)==(c:Int));rw[v]at n;cases b
  rotate_right;focus have d:¬(j:Int)<(s.size:Int):=dg;have G:=decide_eq_false d;have n:Hid ((cR s j==c)=false):=qH<|by rw[df l];simp;omega
 rotate_right;focus have E:=decide_eq_false t
 all_goals
  go_wp2_with fail;go_quiet(fail);go_wp2;go_ret;first
   |exact⟨_,rfl,A (λq=>by first|exact n|omega) _⟩
   |exact⟨_,rfl,j+1,aS,⟨dg,z,at_,k,B _,p⟩,⟨dg,id,gr_trans o (pu _ _ _ _)⟩,rfl,λ_=>C n,λ_=>⟨t,dg⟩⟩
def Bi(h:EJ rb s lv P i bad w)(t:s.size<=4000)(c:Nat)(r:c<256:=by decide):Cw 80 #[Pq rb,.int .u8 (c:Int)] w λe w'=>e=Rw (.tuple #[])/\EE rb s lv P i bad w (λj b=>Fi bad (cG s i c) j b) w':=by
 have k:=qH (Lc h t c r);clear h;go_enter func80,ntmps80;go_wp2_with fail;refine k.mono ?_;rintro e v ⟨b,rfl,j,aS,d,g,rfl,f,l⟩;have c1:=d.2.choose_spec.choose_spec.choose_spec.1.c1;have n:=qH (rM d j dg);replace g:=qH g;replace d:=qH d;replace f:=qH f;replace l:=qH l;clear k;cases b;.go_wp2_with fail;refine Ut n ?_;rintro w2 o;have p:=qH (EE.on (y:=λj b=>Fi aS (cG s i c) j b) g o λa b q h=>⟨λe=>by have:=q.2;omega,λ_=>⟨_,by unfold cG;rw[<-(f.out h).1];rfl⟩⟩);go_wp2;go_end0;exact⟨rfl,p⟩
 .go_wp2;go_end0;exact⟨rfl,j,aS,d,g,λh=>⟨λ_=>by unfold cG;rw[<-(f.out h).1,(f.out h).2];rfl,λe=>dg⟩⟩
end
section
variable{rb i j:Nat} {s:BY} {lv:Fd} {P P':Int->Int->Int->Prop} {bad aS:Int} {w w' w2:AT} {x y:Nat->Int->Prop}
def Oe(w:AT)(n:Nat)(a:List Fd)(e:Ending)(w':AT):Prop:=e=Rw (Sq w.heap.size n n)/\w.heap.size<w'.heap.size/\(∀j,j<n->w'.cell? (aq w.heap.size j)=a[j]?/\w'.frozen? (aq w.heap.size j)=false)/\Bq w w'
def QK(w:AT)(n:Nat)(a:List Fd)(T:Nat):Oe w n a (.returned (Sq w.heap.size n n)) (w.alloc (.cells a.toArray T)):=
 ⟨rfl,At,λj b=>⟨by rw[World.cell?_alloc_at _ _ _ _ rfl];simp,At⟩,No⟩
def ty(w:AT):Cw 76 #[] w (Oe w 7 (cK.map .string))/\Cw 120 #[] w (Oe w 12 (bu.map .string))/\Cw 122 #[] w (Oe w 12 (fY.map Iq))/\Cw 117 #[] w (Oe w 12 (aJ.map Iq)):=by
 refine⟨?_,?_,?_,?_⟩;all_goals
  first|go_enter func76,ntmps76|go_enter func120,ntmps120|go_enter func122,ntmps122|go_enter func117,ntmps117
  go_wp2;go_ret;exact QK _ _ _ _
def SJ(s:BY)(a:Nat)(bad:Int)(t:BY)(j:Nat)(b:Int):Prop:=bad<0->(b<0->run am s a≠a/\j=run am s a/\t=s.extract a j)/\(0<=b->run am s a=a)
def NJ(h:EJ rb s lv P i bad w)(hs:s.size<=4000):Cw 74 #[Pq rb] w λe w'=>∃t,e=Rw (.string t)/\EE rb s lv P i bad w (SJ s (sk s i) bad t) w':=by
 have CS:=qH (rO h hs);obtain⟨j,n⟩:=af (sk s i);rw[n]at CS|-;clear h n;go_enter func74,ntmps74;go_wp2_with fail;refine Ut CS ?_;rintro w1 ⟨j,aS,⟨hj,J,at_,l,g,B⟩,⟨ij,-,A⟩,rfl,rfl⟩;have d1:=g.c1;replace g:=qH g;replace A:=qH A;replace B:=qH B;clear CS;go_wp2;clear d1;go_loopw[10] (λ_ wr=>∃k:Nat,j<=k/\k<=s.size/\Hid (RS wr rb s k lv aS J at_ l/\w.grownBy wr (some rb)/\run am s k=run am s j)) (λ_ wr=>s.size-rdI wr rb);.exact⟨j,LE,hj,g,A,rfl⟩
 obtain⟨k,jk,hk,c⟩:=hrel;have R:=c.1.c0;have c1:=c.1.c1;have c3:=c.1.c3;have f1:=c.1.fz 1;have N:=qH c.1.rdI;have G:=qH (I9 c.1);have p:Hid (∀q,EJ rb s lv P k aS (wr.drewN q)/\ED rb i aS w k aS (wr.drewN q)):=λq=>⟨⟨hk,J,at_,l,c.1.drewN q,B⟩,dg,id,gr_trans c.2.1 (bi _ _ _)⟩;by_cases K:aS<0;focus
  have V:=decide_eq_true K;by_cases f:k<s.size;focus
   have d:(k:Int)<(s.size:Int):=dg;have W:=decide_eq_true d;obtain⟨x,hx⟩:=af (s[k].toNat);have r:Hid (am (cR s k)=(decide ((97:Int)<=(x:Int))&&decide ((x:Int)<=122))):=qH<|by rw[dN f,hx];unfold am;congr 1<;>(apply decide_eq_decide.2;omega)
   obtain⟨T,g⟩:=af (decide ((97:Int)<=(x:Int)));obtain⟨U,Z⟩:=af (decide ((x:Int)<=122));rw[g,Z]at r;cases T<;>cases U;rotate_right;focus
    go_wp2_with fail;go_quiet(fail);go_wp2;go_roundw;.exact⟨k+1,dg,dg,G _,gr_trans c.2.1 (pu _ _ _ _),(gZ f r).symm.trans c.2.2⟩
    .rw[(G _).rdI,N.out];omega
  rotate_right;focus have d:¬(k:Int)<(s.size:Int):=dg;have W:=decide_eq_false d;have r:Hid (am (cR s k)=false):=qH<|by rw[df f];rfl
 rotate_right;focus have V:=decide_eq_false K
 all_goals
  have v:Hid (aS<0->run am s j=k):=λq=>by rw[<-c.2.2];first|exact g_ r.out|omega
  go_wp2_with fail;go_quiet(fail);by_cases o:k=j;.subst o;go_wp2_with fail;refine Ut (rM (p _).1 (k:Int) dg) ?_;rintro w2 ⟨a,b,H,E,rfl,Y⟩;have O:Hid (∀t q,EE rb s lv P i aS w (SJ s a aS t) (w2.drewN q)):=λt q=>⟨a,b,H.dr q,((p _).2.trans E).dr q,λe=>⟨λz=>dg,λ_=>v.out e⟩⟩;obtain⟨_,X,Q,I,C,_⟩:=H;have d0:=C.c0;have d1:=C.c1;clear C E R c1 c3 f1 Y;go_wp2_with fail;go_quiet(fail);go_wp2;go_ret;exact⟨_,rfl,O _ _⟩
  .have M:((k:Int)==(j:Int))=false:=by simp;omega
   have L:(j:Int)<=(k:Int):=dg;have ze:(k:Int)<=(s.size:Int):=dg;go_wp2_with fail;go_quiet(fail);go_wp2;go_ret;exact⟨_,rfl,k,aS,(p _).1.dr _,(p _).2.dr _,λe=>⟨λ_=>⟨by rw[v.out e];exact o,(v.out e).symm,rfl⟩,λz=>dg⟩⟩
end
def NN(a:Int)(d:0<=a/\a<256)(w:AT)(n:Nat)(c:w.heap.size=n):(convert 158 9 (Sq n 1 1)).run prog (w.alloc (.cells #[.int .u8 a] 5))=.ok (.string ⟨#[a.toNat.toUInt8]⟩) (w.alloc (.cells #[.int .u8 a] 5)):=by
 subst c;refine run_convert_bytes_back (P:=prog) _ 158 9 5 (aq w.heap.size 0) 1 [a.toNat.toUInt8] underlying158 underlying5 underlying9 λj b=>?_;obtain rfl:j=0:=by simp at b;omega
 rw[show((aq w.heap.size 0):Addr).add 0=(aq w.heap.size 0)from rfl,World.cell?_alloc_mark];simp;omega
section
variable{rb i j:Nat} {s:BY} {lv:Fd} {P:Int->Int->Int->Prop} {bad:Int} {w:AT}
def SI(s:BY)(i:Nat)(bad:Int)(t:BY)(j:Nat)(b:Int):Prop:=Fi bad (fo s i) (j,t.data.toList) b
def Le(h:EJ rb s lv P i bad w)(hs:s.size<=4000):Cw 81 #[Pq rb] w λe w'=>∃t,e=Rw (.string t)/\t.size<=4000/\EE rb s lv P i bad w (SI s i bad t) w':=by
 have CM:=qH (Bi h hs 34);clear h;go_enter func81,ntmps81;go_wp2_with fail;refine Ut CM ?_;rintro w1 ⟨j,aS,⟨hj,N,at_,f,H,V⟩,L,R⟩;have X1:Hid (aS<0->fo s i=qF s (s.size+2) j []):=λq=>by
  have:=(R (L.2.1 q)).1 q;unfold cG at this;unfold fo;split at this;.rw[if_pos ‹_›];injection this with e;rw[e]
  .cases this
 have X2:Hid (bad<0->0<=aS->∃e,fo s i=.error e):=λp q=>by
  obtain⟨e,this⟩:=(R p).2 q;unfold cG at this;unfold fo;split at this;.cases this
  .exact⟨_,by rw[if_neg ‹_›]⟩
 replace H:=qH H;replace L:=qH L;replace V:=qH V;clear CM R;go_wp2;go_loopw[3,7] (λv _ wr=>∃(k g:Nat) (Y:Array UInt8),v=.string ⟨Y⟩/\j<=k/\k<=s.size/\Y.size<=k/\s.size<g+k/\Hid (RS wr rb s k lv aS N at_ f/\w1.grownBy wr (some rb)/\(aS<0->fo s i=qF s g k Y.toList))) (λ_ _ wr=>s.size-rdI wr rb);.exact⟨j,s.size+2,#[],rfl,LE,hj,LT,dg,H,gs _ _,X1⟩
 obtain⟨k,g,Y,rfl,jk,Z,hY,hg,d⟩:=hrel;obtain⟨g,rfl⟩:∃x,g=x+1:=⟨g-1,dg⟩;have c0:=d.1.c0;have c1:=d.1.c1;have c3:=d.1.c3;have f1:=d.1.fz 1;have HD:=qH d.1.rdI;have B:Hid (∀u m,RS u rb s m lv aS N at_ f->m<=s.size->j<=m->wr.grownBy u (some rb)->EJ rb s lv P m aS u/\ED rb i bad w m aS u):=λu m r l O g=>⟨⟨l,N,at_,f,r,V⟩,L.trans ⟨O,id,gr_trans d.2.1 g⟩⟩;have D2:Hid (∀u m p,0<=p->(∃e,fo s i=.error e)->RS u rb s m lv aS N at_ f->m<=s.size->j<=m->wr.grownBy u (some rb)->Cw 39 #[Pq rb,Iq p] u λe u'=>e=Rw (.tuple #[])/\Hid (∀t,EE rb s lv P i bad w (SI s i bad t) u')):=λu m p hp E r l O g=>(rM (B.out u m r l O g).1 p hp).mono λe u' ⟨H,h2⟩=>⟨H,λt=>EE.on (B.out u m r l O g).2 h2 λa b q _=>⟨λz=>by have:=q.2;omega,λ_=>E⟩⟩;by_cases hb:aS<0;rotate_right;.go_wp2;go_ret;exact⟨_,rfl,by decide,k,aS,(B _ _ d.1 Z jk (gs _ _)).1,(B _ _ d.1 Z jk (gs _ _)).2,λp=>⟨λz=>dg,X2.out p⟩⟩
 have c:=qH (d.2.2 hb);by_cases J:k<s.size;rotate_right;.have X:(s.size:Int)<=(k:Int):=dg;have C:Hid (∃e,fo s i=.error e):=⟨k,by rw[c.out,qF,if_pos (df J)]⟩;go_wp2_with fail;go_quiet(fail);go_wp2_with fail;refine Ut (D2 _ k _ dg C (d.1.drewN _) Z jk (bi _ _ _)) ?_;rintro w2 Q;go_wp2;go_ret;exact⟨_,rfl,by decide,Q _⟩
 have ze:(k:Int)<(s.size:Int):=dg;have X:¬(s.size:Int)<=(k:Int):=dg;have A:=qH (I9 d.1);obtain⟨x,hx⟩:=af (s[k].toNat);have zk:x<256:=by rw[<-hx];exact UInt8.toNat_lt _
 have U:cR s k=x:=(dN J).trans hx;replace c:=c.out;rw[qF,U,if_neg dg]at c;replace c:=qH c;rcases o7 (x:Int) 34 92 with M|⟨M,T⟩|⟨M,T⟩
 .have C:Hid (fo s i=.ok (k+1,Y.toList)):=qH<|by rw[c.out,if_pos (by simp at M;omega)]
  go_wp2_with fail;go_quiet(fail);go_wp2_with fail;go_quiet(fail);go_wp2;go_ret;exact⟨_,rfl,by show Y.size<=_;omega,k+1,aS,(B _ _ (A _) dg dg (pu _ _ _ _)).1,(B _ _ (A _) dg dg (pu _ _ _ _)).2,λ_=>⟨λ_=>C,λz=>dg⟩⟩
 rotate_right
 .have n:∀q,_:=λq=>NN (x:Int) ⟨dg,dg⟩ ((wr.drewN q).setCell (aq rb 1) (Iq ((k:Int)+1))) wr.heap.size At;have C:Hid (fo s i=qF s g (k+1) (Y.toList++[(x:Int).toNat.toUInt8])):=qH<|by rw[c.out,if_neg (by simp at M;omega),if_neg (by simp at T;omega)];rfl
  go_wp2_with fail;go_quiet(fail);go_wp2_with fail;go_quiet(fail);go_wp2;go_roundw;.exact⟨k+1,g,_,rfl,dg,dg,by simp;omega,dg,(A _).below No,gr_trans d.2.1 (gr_trans (pu _ _ _ _) (dm No)),λ_=>C⟩
  .rw[((A _).below No).rdI,HD.out];omega
 obtain rfl:x=92:=by
  have:(x:Int)=92:=by simpa using T
  omega
 have G:=qH λq K=>by have:=((A q).drewN K).setI (k+2);rwa[show((k+2:Nat):Int)=(k:Int)+1+1 by omega]at this
 have HF:=qH λu E r=>D2 u (k+1) ((k:Int)+1) dg E r dg dg;replace c:=c.out;rw[if_neg (by decide),if_pos rfl]at c;by_cases o:k+1<s.size;focus
  have zg:(k:Int)+1<(s.size:Int):=dg;have W:decide ((s.size:Int)<=(k:Int)+1)=false:=decide_eq_false dg;obtain⟨y,hy⟩:=af (s[k+1].toNat);rw[dN o,hy]at c;rcases(by omega:y=34\/y=92\/y=110\/(y≠34/\y≠92/\y≠110))with rfl|rfl|rfl|⟨n1,n2,n3⟩;rotate_right;focus
   have e3:((y:Int)!=34)=true:=by simp;omega
   have e4:((y:Int)!=92)=true:=by simp;omega
   have e5:((y:Int)!=110)=true:=by simp;omega
   rw[if_neg dg,if_neg n3]at c
 rotate_right;focus have I:(s.size:Int)<=(k:Int)+1:=dg;have W:=decide_eq_true I;rw[df o]at c
 all_goals
  replace c:=qH c;have n:Hid (∀a,0<=a/\a<256->∀q K,(convert 158 9 (Sq wr.heap.size 1 1)).run prog (((((wr.drewN q).setCell (aq rb 1) (Iq ((k:Int)+1))).drewN K).setCell (aq rb 1) (Iq ((k:Int)+1+1))).alloc (.cells #[.int .u8 a] 5))=.ok (.string ⟨#[a.toNat.toUInt8]⟩) (((((wr.drewN q).setCell (aq rb 1) (Iq ((k:Int)+1))).drewN K).setCell (aq rb 1) (Iq ((k:Int)+1+1))).alloc (.cells #[.int .u8 a] 5))):=λa ha q K=>NN a ha _ _ At;have zh:=n 34 dg;have zi:=n 92 dg;have zj:=n 10 dg;go_wp2_with fail;go_quiet(fail);go_wp2_with fail;go_quiet(fail);go_wp2_with fail;go_quiet(fail);go_wp2_with fail;first
   |(go_quiet(fail);go_wp2;go_roundw;(case rel=>exact⟨k+2,g,_,rfl,dg,dg,by simp;omega,dg,(G _ _).below No,gr_trans d.2.1 (gr_trans (pu _ _ _ _) (gr_trans (pu _ _ _ _) (dm No))),λ_=>c⟩);(case measure=>(rw[((G _ _).below No).rdI,HD.out];omega)))
   |(refine Ut (HF _ ⟨_,c⟩ (by first|exact A _|exact(A _).drewN _) (by first|exact pu _ _ _ _|exact gr_trans (pu _ _ _ _) (bi _ _ _))) ?_;rintro w2 Q;go_wp2;go_ret;exact⟨_,rfl,by decide,Q _⟩)
end
def UB(s:BY)(a:Nat)(bad n:Int)(j:Nat)(b:Int):Prop:=a<=j/\(bad<0->(b<0->eX s a (run aE s a)=false/\j=run aE s a/\n=dv s a (j-a))/\(0<=b->eX s a (run aE s a)=true))
section
variable{rb i j:Nat} {s:BY} {lv:Fd} {P:Int->Int->Int->Prop} {bad:Int} {w:AT}
def Ld(h:EJ rb s lv P i bad w)(hs:s.size<=4000):Cw 119 #[Pq rb] w λe w'=>∃n:Int,e=Rw (.tuple #[Iq n,Iq (sk s i:Int)])/\EE rb s lv P i bad w (UB s (sk s i) bad n) w':=by
 have CS:=qH (rO h hs);obtain⟨j,C⟩:=af (sk s i);rw[C]at CS|-;clear h C;go_enter func119,ntmps119;go_wp2_with fail;refine Ut CS ?_;rintro w1 ⟨j,aS,⟨hj,R,at_,B,r,L⟩,⟨ij,-,K⟩,rfl,rfl⟩;have d1:=r.c1;replace r:=qH r;replace K:=qH K;replace L:=qH L;clear CS;go_wp2;clear d1;go_loopw[5,13] (λv _ wr=>∃(k:Nat) (n:Int),v=Iq n/\j<=k/\k<=s.size/\0<=n/\n<=999999/\Hid (RS wr rb s k lv aS R at_ B/\w.grownBy wr (some rb)/\run aE s k=run aE s j/\n=dv s j (k-j))) (λ_ _ wr=>s.size-rdI wr rb);.exact⟨j,0,rfl,LE,hj,dg,dg,r,K,rfl,by rw[Nat.sub_self];rfl⟩
 obtain⟨k,n,rfl,V,hk,n0,n1,c⟩:=hrel;have c0:=c.1.c0;have c1:=c.1.c1;have c3:=c.1.c3;have f1:=c.1.fz 1;have Y:=qH c.1.rdI;have I:=qH (I9 c.1);have E:Hid (∀q,EJ rb s lv P k aS (wr.drewN q)/\ED rb i aS w k aS (wr.drewN q)):=λq=>⟨⟨hk,R,at_,B,c.1.drewN q,L⟩,dg,id,gr_trans c.2.1 (bi _ _ _)⟩;by_cases T:aS<0;focus
  have eb:=decide_eq_true T;by_cases o:k<s.size;focus
   have d:(k:Int)<(s.size:Int):=dg;have el:=decide_eq_true d;obtain⟨x,hx⟩:=af (s[k].toNat);have Q:Hid (cR s k=x):=(dN o).trans hx;have G:Hid (aE (cR s k)=(decide ((48:Int)<=(x:Int))&&decide ((x:Int)<=57))):=qH<|by rw[Q.out];unfold aE;congr 1<;>(apply decide_eq_decide.2;omega)
   obtain⟨e1,r⟩:=af (decide ((48:Int)<=(x:Int)));obtain⟨e2,h2⟩:=af (decide ((x:Int)<=57));rw[r,h2]at G;cases e1<;>cases e2;rotate_right;focus
    have N:Hid (run aE s (k+1)=run aE s j):=(gZ o G).symm.trans c.2.2.1;have O:=c.2.2.2;have A:dv s j (k+1-j)=if k-j<6 then 10*n+((x:Int)-48)else n:=by rw[show k+1-j=(k-j)+1 by omega,dv,<-O,show j+(k-j)=k by omega,Q.out]
    have l:=rL s j (k+1-j) λt ht=>by have h:=l_ (p:=aE) s (s.size-j) j t (by show j+t<run aE s j;have:=ga aE s (k+1);rw[N.out]at this;omega);simpa[aE]using h
    by_cases h6:(k:Int)-(j:Int)<6;all_goals
     have f:Hid (dv s j (k+1-j)=if(k:Int)-(j:Int)<6 then 10*n+(x:Int)-48 else n):=qH<|by rw[A];split<;>first|omega|(split<;>omega)
     have X:Hid (0<=dv s j (k+1-j)/\dv s j (k+1-j)<=999999):=⟨l.1,l.2.1⟩;simp only[h6,if_true,if_false]at f;have g:=X.out;rw[f.out]at g;clear O A l;go_wp2_with fail;go_quiet(fail);go_wp2_with fail;try go_quiet(fail)
     go_wp2;go_roundw;.exact⟨k+1,_,rfl,dg,dg,g.1,g.2,by first|exact I _|exact(I _).drewN _,gr_trans c.2.1 (pu _ _ _ _),N,f.out.symm⟩
     .rw[(I _).rdI,Y.out];omega
  rotate_right;focus have d:¬(k:Int)<(s.size:Int):=dg;have el:=decide_eq_false d;have G:Hid (aE (cR s k)=false):=qH<|by rw[df o];rfl
 rotate_right;focus have eb:=decide_eq_false T
 all_goals
  have H:Hid (aS<0->run aE s j=k):=λq=>by rw[<-c.2.2.1];first|exact g_ G.out|omega
  have Z:=qH c.2.2.2;by_cases t1:j+1<k;focus have v1:(1:Int)<(k:Int)-(j:Int):=dg;have M:j<s.size:=dg;have U:(j:Int)<(s.size:Int):=dg;obtain⟨z,hz⟩:=af (s[j].toNat);have J:Hid (cR s j=z):=(dN M).trans hz
  rotate_right;focus have v1:¬(1:Int)<(k:Int)-(j:Int):=dg;have J:=qH trivial
  all_goals
   go_wp2_with fail;go_quiet(fail);go_wp2_with(go_at_call 39;refine Ut (rM (E _).1 (j:Int) dg) ?_;rintro w2 ⟨a,b,J2,W,rfl,h0⟩);all_goals
    go_ret2;first
     |exact⟨_,rfl,a,b,J2,(E _).2.trans W,V,λq=>⟨λz=>dg,λ_=>by have:=J.out;rw[H.out q];unfold eX;grind⟩⟩
     |exact⟨_,rfl,k,aS,(E _).1,(E _).2,V,λq=>⟨λ_=>⟨by have:=J.out;rw[H.out q];unfold eX;grind,(H.out q).symm,Z⟩,λz=>dg⟩⟩
end
def EF(F:dM)(m D:Nat)(er at_ dep:Int):Prop:=FL er at_ F m/\dep=D
def EF.on{F m D a b c p}(d:m<=p)(h:EF F m D a b c):EF F p D a b c:=⟨h.1.on d,h.2⟩
def EF.wr{F m D}(c:Nat){p:Nat}(b:m<=p)(r t d:Int)(h:EF F m D r t d):if t<0\/(p:Int)<t then EF (fh F c p) p D c p d else EF (fh F c p) p D r t d:=by
 have k:=h.1.add c p b;unfold SD SB at k;by_cases q:t<0\/(p:Int)<t;.rw[if_pos q,if_pos q]at k;rw[if_pos q];exact⟨k,h.2⟩
 .rw[if_neg q,if_neg q]at k;rw[if_neg q];exact⟨k,h.2⟩
def DF(kd:Nat)(L:zza)(F:dM)(a:zzc)(S:zzh)(ix n:Int)(A p:Nat):dM×List Int×List Nat:=
 if ix<0\/fE kd ix.toNat=false then(fh F 7 A,a,S)
 else(bN (decide (ix=0/\0<n)&&em L n) (bN (decide (fY[ix.toNat]?.getD 0<n)) (bN (S.contains ix.toNat) F 5 A) 6 p) 5 p,a.set ix.toNat n,ix.toNat::S)
def PJ(s:BY)(kd:Nat)(L:zza)(R:Except Nat (Nat×dM×List Int))(more:Bool)(i:Nat)(b:Int)(F:dM)(a:zzc)(S:zzh):Prop:=(b<0->if more then∃g,s.size<g+i/\cX s kd L g i F a S=R else iw s i F a=R)/\(0<=b->∃e,R=.error e)
def OC{s:BY}{d b N f k i8:Nat}{L:zza}{R}{E z p l n:Int}{F:dM}{a:zzc}{S:zzh}{tx:BY}{c:Bool}(h:PJ s d L R true b E F a S)(K:E<0)(t:SJ s (sk s b) E tx N z)(o:Fi z (cG s N 61) f p)(M:UB s (sk s f) p n k l)(O:p<0->z<0)(B:l<0->p<0)(Y:c=true->b<i8)(hi:b<=s.size)(W:l<0->c=aK s k 59/\i8=an s k 59):
 PJ s d L R c i8 l (DF d L F a S (aB bu tx 0) n (sk s b) (sk s f)).1 (DF d L F a S (aB bu tx 0) n (sk s b) (sk s f)).2.1 (DF d L F a S (aB bu tx 0) n (sk s b) (sk s f)).2.2:=by
 obtain⟨g,hg,G⟩:=h.1 K;obtain⟨g,rfl⟩:∃x,g=x+1:=⟨g-1,dg⟩;have t:=t K;have A:(l<0->eM s d L b F a S=.ok (k,DF d L F a S (aB bu tx 0) n (sk s b) (sk s f)))/\(0<=l->∃e,eM s d L b F a S=.error e):=by
  unfold eM DF;simp only;constructor;.intro q;obtain⟨H,I,J⟩:=t.1 (O (B q));obtain⟨q1,q2,q3⟩:=(M.2 (B q)).1 q;have r:=(o (O (B q))).1 (B q);rw[I]at r J;rw[if_neg H,r];simp only;rw[q1,<-q2,<-q3,<-J];simp only[qD,if_false];split<;>rfl
  .intro q;by_cases Q:z<0
   .obtain⟨H,I,J⟩:=t.1 Q;have o:=o Q;rw[I]at o;rw[if_neg H];by_cases T:p<0;.rw[o.1 T];simp only;rw[(M.2 T).2 q];exact⟨_,rfl⟩
    .obtain⟨e,X⟩:=o.2 dg;rw[X];exact⟨_,rfl⟩
   .rw[if_pos (t.2 dg)];exact⟨_,rfl⟩
 obtain⟨⟨F2,V,S2⟩,Z⟩:=af (DF d L F a S (aB bu tx 0) n (sk s b) (sk s f));rw[Z]at A|-;refine⟨λq=>?_,λq=>?_⟩;.obtain⟨C,U⟩:=W q;have A:=A.1 q;cases v:aK s k 59 with
  |true=>rw[v]at C;subst C;exact⟨g,by have:=Y rfl;omega,by rw[U,<-G];exact(i_ A v).symm⟩
  |false=>
   rw[v]at C;subst C;have:an s k 59=sk s k:=by unfold an;rw[if_neg (by simpa[aK]using v)]
   show iw s i8 F2 V=R;rw[U,this,rJ,<-G];exact(iZ A (by rw[v];decide)).symm
 .obtain⟨e,A⟩:=A.2 q;exact⟨e,by rw[<-G];exact kP A⟩
section
variable{rb i j D m:Nat} {s:BY} {lv:Fd} {P:Int->Int->Int->Prop} {F:dM} {a:zzc} {S:zzh} {bad aS:Int} {w w' u u':AT} {x:Nat->Int->Prop} {ab sb i':Nat}
def EJ.rd(h:EJ rb s lv P i bad w):rdI w rb=i:=by obtain⟨_,_,_,_,r,_⟩:=h;exact r.rdI
def EJ.c(h:EJ rb s lv P i bad w):w.cell? (aq rb 1)=some (Iq (i:Int))/\w.cell? (aq rb 2)=some lv/\w.cell? (aq rb 3)=some (Iq bad):=by obtain⟨_,_,_,_,r,_⟩:=h;exact⟨r.c1,r.c2,r.c3⟩
def EJ.bel(h:EJ rb s lv P i bad w)(b:Bq w w'):EJ rb s lv P i bad w':=by obtain⟨l,d,at_,c,r,e⟩:=h;exact⟨l,d,at_,c,r.below b,e⟩
structure jE(w:AT)(rb ab sb:Nat)(s:BY)(lv:Fd)(D i:Nat)(bad:Int)(F:dM)(m:Nat)(a:zzc)(S:zzh)(i':Nat)(aS:Int)(u:AT):Prop where
 j:EJ rb s lv (EF F m D) i' aS u
 d:ED rb i bad w i' aS u
 l:a.length=12
 a:dw u ab (λk=>Iq (a[k]?.getD 0))
 s:dw u sb (λk=>.bool (S.contains k))
 n:rb<w.heap.size/\w.heap.size<=ab/\w.heap.size<=sb/\ab≠sb
def jE.to(h:jE w rb ab sb s lv D i bad F m a S i' aS u){c e:Nat}{b:Int}{F2:dM}(f:EJ rb s lv (EF F2 e D) c b u')(hd:ED rb i' aS u c b u'):jE w rb ab sb s lv D i bad F2 e a S c b u':=by obtain⟨g,k,o,p⟩:=h.n;exact⟨f,h.d.trans hd,h.l,h.a.grown hd.2.2 dg,h.s.grown hd.2.2 dg,h.n⟩
def jE.below(h:jE w rb ab sb s lv D i bad F m a S i' aS u)(b:Bq u u'):jE w rb ab sb s lv D i bad F m a S i' aS u':=h.to (h.j.bel b) ⟨LE,id,dm b⟩
def jE.on(h:jE w rb ab sb s lv D i bad F m a S i' aS u){p:Nat}(b:m<=p):jE w rb ab sb s lv D i bad F p a S i' aS u:=h.to (h.j.mono λ_ _ _=>EF.on b) ED.refl
def jE.step(h:jE w rb ab sb s lv D i bad F m a S i' aS u)(k:EE rb s lv (EF F m D) i' aS u x u'):∃c b,x c b/\i'<=c/\(b<0->aS<0)/\jE w rb ab sb s lv D i bad F m a S c b u':=by obtain⟨c,b,e,d,f⟩:=k;exact⟨c,b,f,d.1,d.2.1,h.to e d⟩
def EJ.oth(h:EJ rb s lv P i bad u){g k:Nat}{v:Fd}(d:rb≠g):EJ rb s lv P i bad (u.setCell (aq g k) v):=by obtain⟨l,c,at_,b,r,e⟩:=h;exact⟨l,c,at_,b,r.other d _,e⟩
def jE.setA(h:jE w rb ab sb s lv D i bad F m a S i' aS u){k:Nat}(c:k<12)(n:Int):jE w rb ab sb s lv D i bad F m (a.set k n) S i' aS (u.setCell (aq ab k) (Iq n)):=by
 obtain⟨o,f,p,g⟩:=h.n;refine⟨h.j.oth dg,⟨h.d.1,h.d.2.1,tG h.d.2.2 f⟩,by rw[xK];exact h.l,?_,h.s.other g.symm _,h.n⟩;have e:(λj=>if j=k then Iq n else Iq (a[j]?.getD 0))=λj=>Iq ((a.set k n)[j]?.getD 0):=by
  funext j;have:=h.l;by_cases b:j=k;.subst b;rw[if_pos rfl,Co dg];rfl
  .grind
 rw[<-e];exact h.a.set c (Iq n)
def jE.setS(h:jE w rb ab sb s lv D i bad F m a S i' aS u){k:Nat}(b:k<12):jE w rb ab sb s lv D i bad F m a (k::S) i' aS (u.setCell (aq sb k) (.bool true)):=by
 obtain⟨o,p,c,f⟩:=h.n;refine⟨h.j.oth dg,⟨h.d.1,h.d.2.1,tG h.d.2.2 c⟩,h.l,h.a.other f _,?_,h.n⟩;have e:(λj=>if j=k then Value.bool true else .bool (S.contains j))=λj=>.bool ((k::S).contains j):=by funext j;by_cases g:j=k<;>grind
 rw[<-e];exact h.s.set b (.bool true)
def Oe.r12{z:zzc}(h:∀j,j<12->u.cell? (aq ab j)=(z.map Iq)[j]?/\u.frozen? (aq ab j)=false)(e:z.length=12)(d:ab<u.heap.size):dw u ab (λk=>Iq (z[k]?.getD 0)):=⟨d,λk c=>by have b:k<z.length:=dg;rw[(h k c).1,(h k c).2];simp[b]⟩
def UA(w:AT)(rb:Nat)(s:BY)(lv:Fd)(D i:Nat)(bad:Int)(R:Except Nat (Nat×dM×List Int))(e:Ending)(w':AT):Prop:=∃ab a F i' aS,e=Rw (Sq ab 12 12)/\w.heap.size<=ab/\a.length=12/\dw w' ab (λk=>Iq (a[k]?.getD 0))/\EJ rb s lv (EF F i' D) i' aS w'/\ED rb i bad w i' aS w'/\Fi bad R (i',F,a) aS
def OB(h:EJ rb s lv (EF F i D) i bad w)(hs:s.size<=4000)(hr:rb<w.heap.size)(N:Nat)(zJ:N<7){L:zza}(hL:Np w rb lv L)(hn:L.length<=4000):
 Cw 78 #[Pq rb,Iq (N:Int)] w (UA w rb s lv D i bad (gD s N L i F)):=by
 obtain⟨n,O⟩:=af L.length;obtain⟨A,cl,rfl,h2⟩:∃p zi,lv=.slice p n zi/\∀k,k<n->∃g av,p=some (aq g 0)/\g≠rb/\av≠rb/\w.cell? (aq g (k*5+1))=some (Sq av 12 12)/\w.cell? (aq av 0)=some (Iq ((L.map (λd=>d.attr[0]?.getD 0))[k]?.getD 0)):=by
  rcases hL with⟨rfl,rfl⟩|⟨g,zi,AV,rfl,_,g1,h⟩;.obtain rfl:0=n:=O;exact⟨none,0,rfl,λk hk=>dg⟩
  .exact⟨_,zi,by rw[O],λk hk=>⟨g,AV k,rfl,g1,(h k dg).2.2.1,(h k dg).1,(h k dg).2.2.2⟩⟩
 rw[O]at hn;have zE:Hid (L.take n=L):=qH<|by rw[<-O,jB]
 have zF:Hid (∀k,k<n->k<L.length):=by rw[O];exact λ_ h=>h
 replace h2:=qH h2;replace hr:=qH hr;replace h:=qH h;obtain⟨R,hR⟩:=af (gD s N L i F);rw[hR];replace hR:=qH hR;clear O hL;go_enter func78,ntmps78;go_wp2_with fail;refine(ty w).2.2.2.mono ?_;rintro e w1 ⟨rfl,l1,k1,Q⟩;have J1:=qH (h.out.bel Q);have K1:=qH (Oe.r12 k1 rfl l1);obtain⟨ab,zt⟩:=af w.heap.size;replace Q:=qH Q;rw[zt];rw[zt]at K1 hr;clear k1;go_wp2_with fail;refine(Lc J1.out hs 123).mono ?_;rintro e w2 ⟨bb,rfl,i2,f,j2,d2,rfl,X2,Y2⟩;have D2:Hid (ED rb i f w i2 f w2):=ED.trans ⟨LE,id,dm Q⟩ d2;have K2:Hid (dw w2 ab (λk=>Iq (aJ[k]?.getD 0))):=K1.out.grown d2.2.2 (by have:=hr.out;omega);have J2:=qH (j2.mono λ_ _ _=>EF.on d2.1);replace X2:=qH X2;clear d2 J1 K1 j2;cases bb;.go_wp2;go_ret;exact⟨ab,aJ,F,i2,f,rfl,dg,rfl,K2,J2,D2,λq=>⟨λ_=>by obtain⟨X,Y⟩:=X2.out q;rw[<-hR.out,gD,<-X,Y];simp only[qD,if_false,an];rw[if_neg (by simpa[aK]using X.symm)],λz=>dg⟩⟩
 have zQ:=(Y2 rfl).1;have A1:Hid (PJ s N L R true i2 f F aJ []):=⟨λq=>⟨s.size+1,dg,by obtain⟨X,Y⟩:=X2.out q;rw[<-hR.out,gD,<-X,Y];rfl⟩,λq=>dg⟩;have zL:∀w:AT,(Instr.makeSlice 106 (Iq 12) (Iq 12)).run prog w=.ok (Sq w.heap.size 12 12) (w.alloc (.cells #[.bool false,.bool false,.bool false,.bool false,.bool false,.bool false,.bool false,.bool false,.bool false,.bool false,.bool false,.bool false] 4)):=λw=>pt;obtain⟨sb,zv⟩:=af w2.heap.size;obtain⟨w3,zq⟩:=af (w2.alloc (.cells #[.bool false,.bool false,.bool false,.bool false,.bool false,.bool false,.bool false,.bool false,.bool false,.bool false,.bool false,.bool false] 4));have A0:Hid (jE w rb ab sb s (.slice A n cl) D i f F i2 aJ [] i2 f w3):=by
  have b3:Bq w2 w3:=by rw[<-zq];exact No
  have:=K2.out.1;have:=hr.out;have:=D2.out.2.2.size;have r:=QK w2 12 (List.replicate 12 (.bool false)) 4;rw[show w2.alloc (.cells (List.replicate 12 (.bool false)).toArray 4)=w3 from zq]at r;rw[<-zv];exact⟨J2.out.bel b3,D2.out.trans ⟨LE,id,dm b3⟩,rfl,K2.out.below b3,⟨r.2.1,λk hk=>⟨(r.2.2.1 k hk).1.trans (List.getElem?_replicate_of_lt hk),(r.2.2.1 k hk).2⟩⟩,dg,dg,dg,dg⟩
 clear D2 K2 J2 X2 Y2;go_wp2_with fail;clear zL zq zv;go_loopw[7] (λmv wi=>∃(more:Bool) (i1:Nat) (Q:Int),mv=.bool more/\Hid (∃F a S,jE w rb ab sb s (.slice A n cl) D i f F i1 a S i1 Q wi/\PJ s N L R more i1 Q F a S)) (λmv wi=>if Iu mv then s.size+1-rdI wi rb else 0);.exact⟨true,i2,f,rfl,F,aJ,[],A0,A1⟩
 clear A0 A1;obtain⟨more,i1,Q,rfl,HX⟩:=hrel;obtain⟨F,a,S,M,HI⟩:=HX.out;have c3:=M.j.c.2.2;have zC:=qH M.j.rd;have zI:=M.j.1;have zP:Hid (w.heap.size<=ab):=M.n.2.1;replace M:=qH M;replace HI:=qH HI;clear HX;by_cases zl:more=true/\Q<0;rotate_right
 .have zy:Hid (Cw 80 #[Pq rb,.int .u8 125] wr λe u=>e=Rw (.tuple #[])/\Hid (UA w rb s (.slice A n cl) D i f R (.returned (Sq ab 12 12)) u)):=(Bi M.out.j hs 125).mono λe u ⟨h1,I,b3,k1,k2,k3⟩=>⟨h1,ab,a,F,I,b3,rfl,M.out.n.2.1,M.out.l,(M.out.to k1 k2).a,k1.mono λ_ _ _=>EF.on k2.1,M.out.d.trans k2,λq=>by
   have m3:=k2.2.1;by_cases w1:Q<0;.have hI:=HI.out.1 w1;rw[if_neg λz=>zl ⟨z,w1⟩]at hI;rw[<-hI];unfold iw;refine⟨λz=>by rw[(k3 w1).1 z],λz=>?_⟩;obtain⟨e,he⟩:=(k3 w1).2 z;exact⟨e,by rw[he]⟩
   .exact⟨λz=>absurd (m3 z) w1,λ_=>HI.out.2 dg⟩⟩;have zK:more=false\/(more=true/\¬Q<0):=by cases more<;>simp_all
  rcases zK with rfl|⟨rfl,hb⟩;focus skip
  rotate_right;focus have eb:=decide_eq_false hb
  all_goals clear zl;go_wp2_with fail;refine Ut zy.out ?_;rintro u K;go_wp2;go_ret;exact K
 obtain⟨rfl,hb⟩:=zl;have eb:=decide_eq_true hb;go_wp2_with fail;refine Ut (rO M.out.j hs) ?_;rintro w4 E4;obtain⟨C,b4,⟨U,rfl⟩,l4,_,H4⟩:=M.out.step E4;have c1:=H4.j.c.1;replace H4:=qH H4;have zA:Hid (sk s C=C):=qH<|by rw[U,jq]
 replace U:=qH U;clear E4 c3 M;go_wp2_with fail;refine(NJ H4.out.j hs).mono ?_;rintro e w5 ⟨tx,rfl,E5⟩;obtain⟨i5,b5,X5,l5,_,H5⟩:=H4.out.step E5;rw[zA.out,U.out]at X5;replace H5:=qH H5;replace X5:=qH X5;clear E5 c1 H4;go_wp2_with fail;refine Ut (Bi H5.out.j hs 61) ?_;rintro w6 E6;obtain⟨i6,b6,X6,l6,m6,H6⟩:=H5.out.step E6;replace H6:=qH H6;replace X6:=qH X6;replace m6:=qH m6;clear E6 H5;have N7:=qH (Ld H6.out.j hs);obtain⟨sp,V⟩:=af (sk s i6);have zS:i6<=sp:=by rw[<-V];exact fG _ _
 rw[V]at N7;go_wp2_with fail;refine N7.out.mono ?_;rintro e w7 ⟨B,rfl,E7⟩;obtain⟨o,t,X7,l7,m7,H7⟩:=H6.out.step E7;have zO:=X7.1;replace H7:=qH H7;replace X7:=qH X7;replace m7:=qH m7;clear E7 H6 N7;go_wp2_with fail;refine(ty w7).2.1.mono ?_;rintro e w8 ⟨rfl,g8,k8,b8⟩;have H8:=qH (H7.out.below b8);have FN:=qH (uX bu tx w7.heap.size 0 12 12 w8 g8 (λj hj=>by rw[b_,(k8 j hj).1];simp[hj]) rfl dg);obtain⟨sx,zo⟩:=af (aB bu tx 0);have T:=gS tx bu 0;rw[zo]at FN T;simp only[show bu.length=12 from rfl]at T;have zh:Hid (∀c i8,(c=true->i1<i8)->(t<0->c=aK s o 59/\i8=an s o 59)->PJ s N L R c i8 t (DF N L F a S sx B C sp).1 (DF N L F a S sx B C sp).2.1 (DF N L F a S sx B C sp).2.2):=λc i8 X z3=>by have:=OC (c:=c) (i8:=i8) HI.out hb X5.out X6.out (by rw[V];exact X7.out) m6.out m7.out X zI z3;rwa[zo,V,<-U.out]at this
 clear b8 H7 k8 X5 X6 X7 m6 m7 HI zo V;go_wp2_with fail;refine Ut FN.out ?_;rintro w9 zM;obtain rfl:=zM.symm;clear FN;obtain⟨J,G⟩:=af (DF N L F a S sx B C sp);rw[G]at zh;have zr:Hid (∀u,(∃m,m<=o/\jE w rb ab sb s (.slice A n cl) D i f J.1 m J.2.1 J.2.2 o t u)->Cw 118 #[Pq rb,.int .u8 59] u λe u'=>∃b I,e=Rw (.bool b)/\Hid (∃F a S,jE w rb ab sb s (.slice A n cl) D i f F I a S I t u'/\PJ s N L R b I t F a S)/\Hid (rdI u' rb=I)/\I<=s.size/\(b=true->i1<I)):=λu ⟨m,hm,H⟩=>(Lc H.j hs 59).mono λe u' ⟨b,h1,E⟩=>by
  obtain⟨I,b3,⟨rfl,X,Y⟩,l3,_,H'⟩:=H.step E;have hl:b=true->i1<I:=λe=>by have:=(Y e).2;omega
  exact⟨b,I,h1,⟨_,_,_,H'.on dg,zh.out b I hl X⟩,H'.j.rd,H'.j.1,hl⟩
 have WR:Hid (∀u (c:Nat) F m p S,m<=p->jE w rb ab sb s (.slice A n cl) D i f F m a S o t u->Cw 77 #[Pq rb,Iq (c:Int),Iq (p:Int)] u λr u'=>r=Rw (.tuple #[])/\Hid (jE w rb ab sb s (.slice A n cl) D i f (fh F c p) p a S o t u')):=λu c F m p S hp H=>(yk H.j c p (EF.wr c hp)).mono λr u' ⟨h1,h2,h3⟩=>⟨h1,H.to h2 h3⟩;clear zh;by_cases h0:sx<0;focus
  have zH:=decide_eq_true h0;have HQ:Hid (J=(fh F 7 C,a,S)):=qH<|by rw[<-G,DF,if_pos (.inl h0)]
  clear G;go_wp2_with fail;refine Ut (WR.out _ 7 _ _ C _ l4 H8.out) ?_;rintro u UY;have UZ:Hid (∃m,m<=o/\jE w rb ab sb s (.slice A n cl) D i f J.1 m J.2.1 J.2.2 o t u):=⟨C,dg,by rw[HQ.out];exact UY.out⟩
 rotate_right;focus
  obtain⟨q,rfl⟩:=db (by omega:0<=sx);have zH:decide ((q:Int)<0)=false:=decide_eq_false h0;have hq:q<12:=dg;have zn:w8.cell? (aq sb q)=some (.bool (S.contains q)):=(H8.out.s.2 q hq).1;obtain⟨bs,zk⟩:=af (S.contains q);rw[zk]at zn;have OW:=qH (IM N q zJ hq w8);obtain⟨c,hc⟩:=af (fE N q);rw[hc]at OW;go_upto_if 57 with(go_at_call 121;refine Ut OW.out ?_;rintro wo zN;obtain rfl:=zN.symm);cases c;focus
   have HQ:Hid (J=(fh F 7 C,a,S)):=qH<|by rw[<-G,DF,if_pos (.inr hc)]
   clear G hc OW zn;go_wp2_with fail;refine Ut (WR.out _ 7 _ _ C _ l4 H8.out) ?_;rintro u UY;have UZ:Hid (∃m,m<=o/\jE w rb ab sb s (.slice A n cl) D i f J.1 m J.2.1 J.2.2 o t u):=⟨C,dg,by rw[HQ.out];exact UY.out⟩
  rotate_right;focus
   go_upto_if 64 with fail;obtain⟨mo,zm⟩:∃z,fY[q]?=some z:=⟨_,da (show q<fY.length from hq)⟩;obtain⟨F1,Z⟩:=af (bN bs F 5 C);obtain⟨bm,zG⟩:=af (decide (mo<B));obtain⟨F2,ze⟩:=af (bN bm F1 6 sp);obtain⟨z0,zw⟩:=af ((q:Int)==0);obtain⟨Y,zx⟩:=af (decide (0<B));have HQ:Hid (J=(bN ((z0&&Y)&&em L B) F2 5 sp,a.set q B,q::S)):=qH<|by rw[<-G,DF,if_neg (by rw[iO,hc];simp),iO,zk,zm,<-ze,<-Z,<-zG,<-zw,<-zx];simp only[Cr,Bool.decide_and];rfl
   clear G hc OW zn zk;go_cut[67]from 65 to 66 (λ_ wx=>Hid (jE w rb ab sb s (.slice A n cl) D i f F1 C a S o t wx))
   .cases bs;.go_wp2_with fail;go_meet;rw[<-Z];exact H8.out.on l4
    .go_wp2_with fail;refine Ut (WR.out _ 5 _ _ C _ l4 H8.out) ?_;rintro u UY;go_wp2_with fail;go_meet;rw[<-Z];exact UY
   obtain⟨s0,s1⟩:wc.cell? (aq sb q)=some (.bool (S.contains q))/\_:=hcut.out.s.2 q hq;obtain⟨wd,W⟩:=af (wc.setCell (aq sb q) (.bool true));have UD:Hid (jE w rb ab sb s (.slice A n cl) D i f F1 C a (q::S) o t wd):=by rw[<-W];exact hcut.out.setS hq
   clear hcut H8 Z;go_wp2_with fail;clear W s0 s1;refine(ty wd).2.2.1.mono ?_;rintro e we ⟨rfl,_,ke,be⟩;have UE:=qH (UD.out.below be);have hm:we.cell? (aq wd.heap.size q)=some (Iq mo):=by rw[(ke q hq).1,Cs,zm];rfl
   clear ke be UD zm;go_upto_if 76 with fail;clear hm;go_cut[76,79]from 77 to 78 (λ_ _ wx=>Hid (jE w rb ab sb s (.slice A n cl) D i f F2 sp a (q::S) o t wx))
   .cases bm;.go_wp2_with fail;go_meet;rw[<-ze];exact UE.out.on dg
    .go_wp2_with fail;refine Ut (WR.out _ 6 _ _ sp _ dg UE.out) ?_;rintro u UY;go_wp2_with fail;go_meet;rw[<-ze];exact UY
   have UE:=hcut;clear hcut ze;go_upto_region 21 with fail;go_cut[85]from 80 to 84 (λv wx=>v=.bool (z0&&Y)/\Hid (jE w rb ab sb s (.slice A n cl) D i f F2 sp a (q::S) o t wx));.cases z0<;>cases Y;all_goals go_wp2_with fail;go_meet;exact⟨rfl,UE⟩
   obtain⟨rfl,UF⟩:=hcut;obtain⟨bd,T⟩:=af (z0&&Y);rw[T]at HQ|-;clear UE T zw zx;go_upto_if 85 with fail;go_cut[13]from 86 to 109 (λ_ wx=>Hid (jE w rb ab sb s (.slice A n cl) D i f (bN (bd&&em L B) F2 5 sp) sp a (q::S) o t wx))
   .cases bd;.go_wp2_with fail;go_meet;exact UF
    go_wp2_with fail;go_loopw[13] (λiv wi=>∃k:Nat,k<=n/\iv=Iq k/\Hid (jE w rb ab sb s (.slice A n cl) D i f (bN (em (L.take k) B) F2 5 sp) sp a (q::S) o t wi)) (λiv _=>n-(intOf iv).toNat);.exact⟨0,LT,rfl,UF⟩
    obtain⟨k,hk,rfl,UI⟩:=hrel;have c2:=UI.out.j.c.2.1;by_cases zg:k<n
    .have zu:(k:Int)<(n:Int):=dg;obtain⟨g,av,rfl,g1,g2,g3,g4⟩:=h2.out k zg;have q1:=UI.out.d.2.2.cell g3 (by simpa using g1);have q4:=UI.out.d.2.2.cell g4 (by simpa using g2);have HT:=qH (yt L B k (zF.out k zg));obtain⟨z,hz⟩:=af ((L.map (λd=>d.attr[0]?.getD 0))[k]?.getD 0);rw[hz]at q4 HT;clear g1 g2 g3 g4 hz;obtain⟨X,e1⟩:=af (z==B);rw[e1]at HT;obtain⟨F4,zj⟩:=af (bN (em (L.take k) B) F2 5 sp);have zD:Hid (bN (em (L.take (k+1)) B) F2 5 sp=bN X F4 5 sp):=qH<|by rw[HT.out,Fv,zj]
     rw[zj]at UI;clear HT zj;cases X;focus go_wp2_with fail;have UJ:=UI
     rotate_right;focus go_wp2_with fail;refine Ut (WR.out _ 5 _ _ sp _ LE UI.out) ?_;rintro u UJ;go_wp2_with fail
     all_goals
      go_roundw;.exact⟨k+1,dg,by go_num,by rw[zD.out];exact UJ⟩
      .simp only[intOf];omega
    .have zu:¬(k:Int)<(n:Int):=dg;have UK:Hid (jE w rb ab sb s (.slice A n cl) D i f (bN (em L B) F2 5 sp) sp a (q::S) o t wr):=by have:=UI.out;obtain rfl:k=n:=dg;rwa[zE.out]at this
     go_wp2_with fail;go_meet;exact UK
   obtain⟨s0,s1⟩:wc.cell? (aq ab q)=some (Iq (a[q]?.getD 0))/\_:=hcut.out.a.2 q hq;obtain⟨wd,W⟩:=af (wc.setCell (aq ab q) (Iq B));have UZ:Hid (∃m,m<=o/\jE w rb ab sb s (.slice A n cl) D i f J.1 m J.2.1 J.2.2 o t wd):=⟨sp,zO,by rw[HQ.out,<-W];exact hcut.out.setA hq B⟩;clear hcut UF;go_wp2_with fail;clear W s0 s1
 all_goals
  first|(go_wp2_with fail;refine(zr.out _ UZ.out).mono ?_)|refine(zr.out _ UZ.out).mono ?_
  rintro e u3 ⟨b,I,rfl,H3,zB,zR,zg⟩;go_wp2_with fail;go_roundw;.exact⟨b,I,t,rfl,H3⟩
  .rw[zB.out,zC.out];cases b with
   |false=>show 0<s.size+1-i1;omega
   |true=>have:=zg rfl;show s.size+1-I<s.size+1-i1;omega
end
