import Derived.Test.YtaanagpadfcmlaaGreatDoorQ13
import Derived.Deep.CutBlock
set_option linter.all false
set_option maxRecDepth 100000
set_option maxHeartbeats 16000000
namespace Go.Proofs.YtaanagpadfcmlaaGreatDoor
open Go.RowKit Go.Sort
theorem xZ{P:Int->Prop}{x k:Int}(h:∀p,x<=p->p<k->¬P p)(a:¬P k):∀p,x<=p->p<k+1->¬P p:=λp h1 b=>by
 by_cases hp:p<k;·exact h p h1 hp
 ·obtain rfl:p=k:=dg
  exact a
theorem x_{P:Int->Prop}{z q:Int}(h:∀p,q<p->p<z->¬P p)(b:¬P q):∀p,q-1<p->p<z->¬P p:=λp h1 a=>by
 by_cases hp:q<p;·exact h p hp a
 ·obtain rfl:p=q:=dg
  exact b
theorem Sf{W H:Nat}{x y a j m g i l t u v k q:Int}(h:jQ W H x y a 1 j m g i l t u v)(n:a=1\/a=2)(o:-1<=x/\x<400)(D:x<=k)(E:k<=x+a)(r:∀p,x<=p->p<k->¬(l<=p/\p<l+u))(d:k<x+a->l<=k/\k<l+u)(F:k-1<=q)(G:q<x+a)(s:∀p,q<p->p<x+a->¬(l<=p/\p<l+u))(w:k<=q->l<=q/\q<l+u):
 (0<u/\k=l/\q=l+u-1/\x<=l/\l+u<=x+a)\/(u=0/\k=x+a/\q=k-1):=by
 have u0:=h.u0;by_cases hu:0<u
 ·obtain⟨e,z⟩:=h.within n o hu;left;have f:k<=l:=by
   by_cases b:k<=l;·exact b
   ·exact absurd ⟨iD _,dg⟩ (r l e dg)
  have A:=d dg;have B:l+u-1<=q:=by
   by_cases b:l+u-1<=q;·exact b
   ·exact absurd ⟨dg,dg⟩ (s (l+u-1) dg dg)
  have C:=w dg;omega
 ·right;have f:k=x+a:=by
   by_cases b:k<x+a;·have:=d b;omega
   ·omega
  omega
theorem JP{c:Nat->Nat->Ce}{y a q j:Nat}(h1:a<=j)(b:j<=q):AH c y a q j y j=c y j:=by
 unfold AH;by_cases h:j<=a;·rw[if_pos h]
 ·rw[if_neg h,if_pos b,pR h1]
theorem ss{c:Nat->Nat->Ce}{y a q i j:Nat}{X:Nat->Ce}{e:Ce}(h:a<=j/\j<a+i):da (part c y a q i X) y j e=part c y a q i (λk=>if k=j then e else X k):=by
 funext f d;unfold da part;by_cases h1:f=y/\d=j;·rw[if_pos h1,if_pos dg];exact(if_pos h1.2).symm
 ·rw[if_neg h1];by_cases b:f=y/\a<=d/\d<a+i;·rw[if_pos b,if_pos b];exact(if_neg (λe=>h1 ⟨b.1,e⟩)).symm
  ·rw[if_neg b,if_neg b]
theorem ox{c:Nat->Nat->Ce}{y a q i:Nat}{X Y:Nat->Ce}(h:∀k,a<=k->k<a+i->X k=Y k):part c y a q i X=part c y a q i Y:=by
 funext e d;unfold part;by_cases b:e=y/\a<=d/\d<a+i;·rw[if_pos b,if_pos b];exact h d b.2.1 b.2.2
 ·rw[if_neg b,if_neg b]
theorem DF{c:Nat->Nat->Ce}{y a q i j:Nat}{X:Nat->Ce}(h:a<=j/\j<a+i):part c y a q i X y j=X j:=if_pos ⟨rfl,h⟩
section
variable{K M cap W H:Nat} {c:Nat->Nat->Ce}
theorem Mv(w:World)(h:CS 71 77 w K M cap W H c)(hW:1<=W/\W<=400)(hH:1<=H/\H<=400)(hp:PAll W H c)(x:Int)(y:Nat)(d:ByteArray)(i f g b D E B C:Int)(hw:i=1\/i=2)(hy:y<H)(hx:-1<=x/\x<W)(l t u v:Int)(SF:jQ W H x y i 1 D E B C l t u v):
 Calls Tryz.prog 41 #[Pq K,Iq x,Iq y,.agg #[.string d,Iq i],sv f g b,rv D E B C] w λe w'=>e=Rw (.tuple #[])/\Cv 77 w' M W H (fill c l.toNat (l+u).toNat t.toNat (t+v).toNat (putX l u i d f g b))/\bp M w w':=by
 have zk:Hid (∀w,Calls Tryz.prog 75 #[sv f g b] w λe w'=>e=Rw (sv (kn f) (kn g) (bo b))/\Gr w w'):=uh f g b;have HO:Hid (∀p w,Calls Tryz.prog 77 #[rv D E B C,Iq p,Iq y] w λe w'=>e=Rw (.bool (gV D E B C p y))/\Gr w w'):=λp w=>B8 _ _ _ _ _ _ w;have HV:Hid (∀p:Int,x<=p->p<x+i->(rQ W H p y&&gV D E B C p y)=decide (l<=p/\p<l+u)):=λp h1 h2=>QK SF hw dg dg p h1 h2;have HC:Hid (CS 71 77 w K M cap W H c):=h;have HF:Hid (jQ W H x y i 1 D E B C l t u v):=SF;have HP:Hid (PAll W H c):=hp;obtain⟨S,hS⟩:=ad w.heap.size;have L:Hid (K<S/\M<S/\w.heap.size<=S/\K≠M):=⟨by rw[<-hS];exact h.klt,by rw[<-hS];exact h.cv.lt,dg,h.ne⟩;have zl:=PB.new h d i f g b D E B C hS;obtain⟨W0,zy⟩:=ad (((w.alloc (.cells #[.string d,Iq i] 112)).alloc (.cells #[Iq f,Iq g,Iq b] 75)).alloc (.cells #[Iq D,Iq E,Iq B,Iq C] 101));rw[zy]at zl;have B0:Hid (PB w W0 K M cap W H c S d i f g b D E B C):=zl;have k0:=B0.cs.k0;have k1:=B0.cs.k1;have g1:=B0.cl.c1;have s0:=B0.st.c0;have s1:=B0.st.c1;have s2:=B0.st.c2;clear h hp SF zl;obtain⟨o,zt⟩:=ad (kn f);obtain⟨r,zu⟩:=ad (kn g);obtain⟨m,zr⟩:=ad (bo b);have U:Hid (kn f=o/\kn g=r/\bo b=m):=⟨zt,zu,zr⟩;rw[zt,zu,zr]at zk;clear zt zu zr;unfold sv at zk⊢;unfold rv at HO⊢;have wb:1<=i/\i<=2:=dg
 go_enter Tryz.func41,Tryz.ntmps41;go_upto_region 1 with fail;clear zy;go_cut[47]from 16 to 46 (λs Z=>s=.bool false/\Hid (PB w Z K M cap W H c S d i f g b D E B C));case first=>rcases hw with rfl|rfl;all_goals go_wp2_with fail;go_meet;exact⟨congrArg Value.bool (by simp only[Bool.or_eq_false_iff,decide_eq_false_iff_not];omega),B0⟩
 case rest=>
  obtain⟨rfl,B1⟩:=hcut;clear k0 k1 g1 s0 s1 s2;have s0:=B1.st.c0;have s1:=B1.st.c1;have s2:=B1.st.c2;go_wp2_with fail;refine ag (zk _) ?_;rintro e w1 ⟨rfl,gg⟩;have B2:Hid (PB w w1 K M cap W H c S d i f g b D E B C):=B1.more gg;clear gg s0 s1 s2;have g1:=B2.cl.c1;have s0:=B2.st.c0;have s1:=B2.st.c1;have s2:=B2.st.c2;have sf:=B2.st.fz;obtain⟨w2,zD⟩:=ad (((w1.setCell (aj (S+1) 0) (Iq o)).setCell (aj (S+1) 1) (Iq r)).setCell (aj (S+1) 2) (Iq m));have zh:=B2.style L.1 L.2.1 L.2.2.1 o r m;rw[zD]at zh;have B3:Hid (PB w w2 K M cap W H c S d i o r m D E B C):=zh;have zG:=zh.cl.c1;clear zh;go_upto_block 0 with fail;clear g1 s0 s1 s2 sf zD zG;go_cut[12]from 56 to 73 (λfv Z=>∃k:Int,fv=Iq k/\Hid ((x<=k/\k<=x+i/\(∀p,x<=p->p<k->¬(l<=p/\p<l+u))/\(k<x+i->l<=k/\k<l+u))/\PB w Z K M cap W H c S d i o r m D E B C));case first=>
   go_wp2_with fail;go_loopw[12] (λfv wi=>∃k:Int,x<=k/\k<=x+i/\fv=Iq k/\Hid ((∀p,x<=p->p<k->¬(l<=p/\p<l+u))/\PB w wi K M cap W H c S d i o r m D E B C)) (λfv _=>(x+i-intOf fv).toNat);case atStart=>exact⟨x,dg,dg,rfl,λp h1 h2=>dg,B3⟩
   case round=>
    obtain⟨k,Y,ze,rfl,A⟩:=hrel;by_cases T:k<=x+i-1;·have SC:Hid (Calls Tryz.prog 76 #[Pq K,Iq k,Iq y] wr λe w'=>e=Rw (.bool (rQ W H k y))/\w'=wr):=rR wr A.2.cs k y;have O:Hid (∀w,Calls Tryz.prog 77 #[.agg #[Iq D,Iq E,Iq B,Iq C],Iq k,Iq y] w λe w'=>e=Rw (.bool (gV D E B C k y))/\Gr w w'):=HO k;have G:Hid ((rQ W H k y&&gV D E B C k y)=decide (l<=k/\k<l+u)):=HV k Y dg;obtain⟨sb,zg⟩:=ad (rQ W H k y);obtain⟨hb,zb⟩:=ad (gV D E B C k y);rw[zg]at SC G;rw[zb]at O G;clear zg zb;have r0:=A.2.rc.c0;have r1:=A.2.rc.c1;have r2:=A.2.rc.c2;have r3:=A.2.rc.c3;cases sb with
     |false=>
      have F:Hid (¬(l<=k/\k<l+u)):=of_decide_eq_false G.symm;go_wp2_with(go_at_call 76;refine ag SC ?_;rintro e1 w3 ⟨rfl,I⟩;obtain rfl:=I.symm);go_roundw;case rel=>exact⟨k+1,dg,dg,by go_num,xZ (P:=λp=>l<=p/\p<l+u) A.1 F,A.2⟩
      case measure=>simp[intOf];omega
     |true=>
      cases hb with
      |false=>
       have F:Hid (¬(l<=k/\k<l+u)):=of_decide_eq_false G.symm;go_wp2_with(first|(go_at_call 76;refine ag SC ?_;rintro e1 w3 ⟨rfl,I⟩;obtain rfl:=I.symm)|(go_at_call 77;refine ag (O _) ?_;rintro e1 w4 ⟨rfl,g4⟩;have B4:Hid (PB w w4 K M cap W H c S d i o r m D E B C):=A.2.more g4;clear g4));go_roundw;case rel=>exact⟨k+1,dg,dg,by go_num,xZ (P:=λp=>l<=p/\p<l+u) A.1 F,B4⟩
       case measure=>simp[intOf];omega
      |true=>have F:Hid (l<=k/\k<l+u):=(of_decide_eq_true G.symm:l<=k/\k<l+u);go_wp2_with(first|(go_at_call 76;refine ag SC ?_;rintro e1 w3 ⟨rfl,I⟩;obtain rfl:=I.symm)|(go_at_call 77;refine ag (O _) ?_;rintro e1 w4 ⟨rfl,g4⟩;have B4:Hid (PB w w4 K M cap W H c S d i o r m D E B C):=A.2.more g4;clear g4));go_meet;exact⟨k,rfl,⟨Y,ze,A.1,λ_=>F⟩,B4⟩
    ·have zJ:¬k<=x+i-1:=T;go_wp2_with fail;go_meet;exact⟨k,rfl,⟨Y,ze,A.1,λq=>dg⟩,A.2⟩
  case rest=>
   obtain⟨k,rfl,A⟩:=hcut;have za:Hid ((x<=k/\k<=x+i/\(∀p,x<=p->p<k->¬(l<=p/\p<l+u))/\(k<x+i->l<=k/\k<l+u))):=A.1;have zL:x<=k/\k<=x+i:=⟨A.1.1,A.1.2.1⟩;go_upto_block 2 with fail;go_cut[13]from 74 to 91 (λtv Z=>∃q:Int,tv=Iq q/\Hid ((k-1<=q/\q<x+i/\(∀p,q<p->p<x+i->¬(l<=p/\p<l+u))/\(k<=q->l<=q/\q<l+u))/\PB w Z K M cap W H c S d i o r m D E B C));case first=>
    go_wp2_with fail;go_loopw[13] (λtv wi=>∃q:Int,k-1<=q/\q<x+i/\tv=Iq q/\Hid ((∀p,q<p->p<x+i->¬(l<=p/\p<l+u))/\PB w wi K M cap W H c S d i o r m D E B C)) (λtv _=>(intOf tv-x+2).toNat);case atStart=>exact⟨x+i-1,dg,dg,by first|rfl|go_num,λp h1 h2=>dg,A.2⟩
    case round=>
     obtain⟨q,Y,ze,rfl,A⟩:=hrel;by_cases T:k<=q;·have SC:Hid (Calls Tryz.prog 76 #[Pq K,Iq q,Iq y] wr λe w'=>e=Rw (.bool (rQ W H q y))/\w'=wr):=rR wr A.2.cs q y;have O:Hid (∀w,Calls Tryz.prog 77 #[.agg #[Iq D,Iq E,Iq B,Iq C],Iq q,Iq y] w λe w'=>e=Rw (.bool (gV D E B C q y))/\Gr w w'):=HO q;have G:Hid ((rQ W H q y&&gV D E B C q y)=decide (l<=q/\q<l+u)):=HV q dg dg;obtain⟨sb,zg⟩:=ad (rQ W H q y);obtain⟨hb,zb⟩:=ad (gV D E B C q y);rw[zg]at SC G;rw[zb]at O G;clear zg zb;have r0:=A.2.rc.c0;have r1:=A.2.rc.c1;have r2:=A.2.rc.c2;have r3:=A.2.rc.c3;cases sb with
      |false=>
       have F:Hid (¬(l<=q/\q<l+u)):=of_decide_eq_false G.symm;go_wp2_with(go_at_call 76;refine ag SC ?_;rintro e1 w3 ⟨rfl,I⟩;obtain rfl:=I.symm);go_roundw;case rel=>exact⟨q-1,dg,dg,by go_num,x_ (P:=λp=>l<=p/\p<l+u) A.1 F,A.2⟩
       case measure=>simp[intOf];omega
      |true=>
       cases hb with
       |false=>
        have F:Hid (¬(l<=q/\q<l+u)):=of_decide_eq_false G.symm;go_wp2_with(first|(go_at_call 76;refine ag SC ?_;rintro e1 w3 ⟨rfl,I⟩;obtain rfl:=I.symm)|(go_at_call 77;refine ag (O _) ?_;rintro e1 w4 ⟨rfl,g4⟩;have B4:Hid (PB w w4 K M cap W H c S d i o r m D E B C):=A.2.more g4;clear g4));go_roundw;case rel=>exact⟨q-1,dg,dg,by go_num,x_ (P:=λp=>l<=p/\p<l+u) A.1 F,B4⟩
        case measure=>simp[intOf];omega
       |true=>have F:Hid (l<=q/\q<l+u):=(of_decide_eq_true G.symm:l<=q/\q<l+u);go_wp2_with(first|(go_at_call 76;refine ag SC ?_;rintro e1 w3 ⟨rfl,I⟩;obtain rfl:=I.symm)|(go_at_call 77;refine ag (O _) ?_;rintro e1 w4 ⟨rfl,g4⟩;have B4:Hid (PB w w4 K M cap W H c S d i o r m D E B C):=A.2.more g4;clear g4));go_meet;exact⟨q,rfl,⟨Y,ze,A.1,λ_=>F⟩,B4⟩
     ·have zJ:¬k<=q:=T;go_wp2_with fail;go_meet;exact⟨q,rfl,⟨Y,ze,A.1,λq=>dg⟩,A.2⟩
   case rest=>
    obtain⟨q,rfl,HQ⟩:=hcut;have EN:=Sf HF hw dg za.1 za.2.1 za.2.2.1 za.2.2.2 HQ.1.1 HQ.1.2.1 HQ.1.2.2.1 HQ.1.2.2.2;have BQ:Hid (PB w wc K M cap W H c S d i o r m D E B C):=HQ.2;clear A za HQ HV HO zk zL;rcases EN with⟨hu,zz,zB,zE,zA⟩|⟨rfl,rfl,rfl⟩
    ·have SL:=HF.lu;have zF:=HF.l0;have SR:=HF.row dg hu;obtain⟨a,rfl⟩:∃a:Nat,k=a:=⟨k.toNat,dg⟩;obtain⟨z,rfl⟩:∃z:Nat,q=z:=⟨q.toNat,dg⟩;obtain⟨p,hp⟩:=ad (y*W);obtain⟨n,hn⟩:=ad (W*H);have e1:(y:Int)*(W:Int)=(p:Int):=by rw[<-hp];simp
     have pn:p+W<=n:=by rw[<-hp,<-hn,nM W H,<-Nat.succ_mul];exact lR _ dg
     have nb:n<=160000:=by rw[<-hn];exact jJ hW.2 hH.2
     have az:a<=z/\z<=a+1/\z<W:=dg;have J:Hid (y*W=p/\W*H=n):=⟨hp,hn⟩;have zi:Hid ((a:Int)=l/\(z:Int)=l+u-1/\0<u/\x<=l/\l+u<=x+i/\t=y/\v=1):=⟨zz,zB,hu,zE,zA,SR.1,SR.2⟩;have zn:Hid (ly W (c y)):=HP y hy;clear hp hn hu zz zB zE zA SL zF SR;go_upto_block 4 with fail;go_cut[14]from 93 to 123 (λ_ Z=>Hid (PB w Z K M cap W H (cut c y a z) S d i o r m D E B C));case first=>
      go_wp2_with fail;go_loopw[14] (λiv wi=>∃j:Nat,a<=j/\j<=z+1/\iv=Iq j/\Hid (PB w wi K M cap W H (AH c y a z j) S d i o r m D E B C)) (λiv _=>z+1-(intOf iv).toNat);case atStart=>exact⟨a,ae _,dg,rfl,by have e:AH c y a z a=c:=if_pos (ae _);rw[e];exact BQ⟩
      case round=>
       obtain⟨j,zc,zI,rfl,A⟩:=hrel;by_cases hj:j<=z
       ·have zo:(j:Int)<=(z:Int):=dg
        have k0:=A.cs.k0;have CL:Hid (∀wq,Gr wr wq->Calls Tryz.prog 78 #[Pq K,Iq ((p:Int)+j),Iq ((p:Int)+a),Iq ((p:Int)+z)] wq λe w'=>e=Rw (.tuple #[])/\Cv 77 w' M W H (AH c y a z (j+1))/\bp M wq w'):=by intro wq gq;have:=EK wq (A.cs.gr gq) hW.2 hH.2 y j a z hy dg zc hj (by rw[JP zc hj];exact λe=>(zn.head j dg e).1) (by rw[JP zc hj];exact λe=>by obtain⟨k,T,_⟩:=zn.tail j dg e;omega) (p+j) (p+a) (p+z) (by rw[J.1]) (by rw[J.1]) (by rw[J.1]);rw[Hn zn.out az.1 az.2.1 az.2.2 zc hj]at this;exact this
        have f1:IntKind.i64.wrap ((p:Int)+j)=(p:Int)+j:=IntWalk.i64_in _ dg;have f2:IntKind.i64.wrap ((p:Int)+a)=(p:Int)+a:=IntWalk.i64_in _ dg;have f3:IntKind.i64.wrap ((p:Int)+z)=(p:Int)+z:=IntWalk.i64_in _ dg;have f4:IntKind.i64.wrap (p:Int)=(p:Int):=IntWalk.i64_in _ dg;go_wp2_with fail;go_region_with(go_at_call 78;refine ag (CL _ (by first|exact Gr.refl _|exact(Gr.refl wr).drew)) ?_;rintro e1 w3 ⟨rfl,V3,C3⟩;have B4:Hid (PB w w3 K M cap W H (AH c y a z (j+1)) S d i o r m D E B C):=(A.more (by first|exact Gr.refl _|exact(Gr.refl wr).drew)).cells L.2.1 C3 V3;clear V3 C3);all_goals
         go_wp2_with fail;go_roundw;case rel=>exact⟨j+1,dg,dg,by go_num,B4⟩
         case measure=>simp[intOf];omega
       ·have zo:¬(j:Int)<=(z:Int):=dg
        have zq:j=z+1:=dg;go_wp2_with fail;go_meet;subst zq;have e:AH c y a z (z+1)=cut c y a z:=by unfold AH;rw[if_neg dg,if_neg dg]
        have:=A.out;rw[e]at this;exact this
     case rest=>
      have B5:Hid (PB w wc K M cap W H (cut c y a z) S d i o r m D E B C):=hcut;clear hcut BQ;go_upto_block 6 with fail;go_cut[15]from 125 to 144 (λ_ Z=>Hid (PB w Z K M cap W H (part c y a z (z+1-a) (λ_=>bk o r m)) S d i o r m D E B C));case first=>
       go_wp2_with fail;go_loopw[15] (λiv wi=>∃j:Nat,a<=j/\j<=z+1/\iv=Iq j/\Hid (PB w wi K M cap W H (part c y a z (j-a) (λ_=>bk o r m)) S d i o r m D E B C)) (λiv _=>z+1-(intOf iv).toNat);case atStart=>exact⟨a,ae _,dg,rfl,by rw[Nat.sub_self,oy];exact B5⟩
       case round=>
        obtain⟨j,zc,zI,rfl,A⟩:=hrel;by_cases hj:j<=z
        ·have zo:(j:Int)<=(z:Int):=dg
         have k0:=A.cs.k0;have k2:=A.cs.k2;have kc:=A.cs.hc;rw[J.2]at k2 kc;have s0:=A.st.c0;have s1:=A.st.c1;have s2:=A.st.c2;have jW:j<W:=dg;have N:Hid (y*W*5+j*5=(p+j)*5):=by show _=_;rw[J.1];omega
         have d0:=A.cs.cv.c0 hy jW;have d1:=A.cs.cv.c1 hy jW;have d2:=A.cs.cv.c2 hy jW;have d3:=A.cs.cv.c3 hy jW;have d4:=A.cs.cv.c4 hy jW;rw[N.out]at d0 d1 d2 d3 d4;have fz:=A.cs.cv.fz;have pj:(p:Int)+j<(n:Int):=dg;have f1:IntKind.i64.wrap ((p:Int)+j)=(p:Int)+j:=IntWalk.i64_in _ dg;have f4:IntKind.i64.wrap (p:Int)=(p:Int):=IntWalk.i64_in _ dg;go_wp2_with fail;go_region;all_goals
          go_wp2_with fail;go_roundw;case rel=>
           have VS:=A.cs.cv.set hy jW (bk o r m);rw[N.out]at VS;have EO:da (part c y a z (j-a) (λ_=>bk o r m)) y j (bk o r m)=part c y a z (j+1-a) (λ_=>bk o r m):=by have:=l5 c y a z (j-a) (λ_=>bk o r m);rw[show a+(j-a)=j by omega,show j-a+1=j+1-a by omega]at this;exact this
           rw[EO]at VS;exact⟨j+1,dg,dg,by go_num,(A.cells L.2.1 ((bp.refl M wr).set5 _ _ _ _ _) VS).more ((Gr.refl _).drew)⟩
          case measure=>simp[intOf];omega
        ·have zo:¬(j:Int)<=(z:Int):=dg
         have zq:j=z+1:=dg;go_wp2_with fail;go_meet;subst zq;exact A
      case rest=>
       have B6:Hid (PB w wc K M cap W H (part c y a z (z+1-a) (λ_=>bk o r m)) S d i o r m D E B C):=hcut;clear hcut B5;have zm:Hid (∀X,fill c l.toNat (l+u).toNat t.toNat (t+v).toNat X=part c y a z (z+1-a) X):=λX=>by obtain⟨q1,q2,q3,q4,q5,q6,q7⟩:=zi.out;rw[lf c y a z X az.1,show l.toNat=a by omega,show(l+u).toNat=z+1 by omega,show t.toNat=y by omega,show(t+v).toNat=y+1 by omega]
       have g1:=B6.cl.c1;by_cases zC:u<i
       ·have HX:Hid (putX l u i d f g b=λ_=>bk o r m):=by show _=_;rw[<-U.1,<-U.2.1,<-U.2.2];exact if_pos zC
        have cc:((a:Int)==x)=false\/(((a:Int)==x)=true/\((z:Int)==x+i-1)=false):=by obtain⟨q1,q2,q3,q4,q5,q6,q7⟩:=zi.out;simp only[beq_eq_false_iff_ne,beq_iff_eq];omega
        rcases cc with t1|⟨t1,t2⟩;all_goals go_wp2_with fail;go_end0;exact⟨rfl,by rw[zm.out,HX.out];exact B6.cs.cv,B6.gr⟩
       ·have HX:Hid (putX l u i d f g b=Fb a i d o r m):=by show _=_;rw[<-U.1,<-U.2.1,<-U.2.2,show a=l.toNat by have:=zi.1;omega];exact if_neg zC
        have zH:(a:Int)=x/\(z:Int)=x+i-1:=by obtain⟨q1,q2,q3,q4,q5,q6,q7⟩:=zi.out;omega
        obtain⟨rfl,zv⟩:=zH;have t2:((z:Int)==(a:Int)+i-1)=true:=by rw[beq_iff_eq];exact zv
        have zx:Hid ((z:Int)=(a:Int)+i-1):=zv;clear zv;have aW:a<W:=dg;have N:Hid (y*W*5+a*5=(p+a)*5):=by show _=_;rw[J.1];omega
        have pa:(p:Int)+a<(n:Int):=dg;have f1:IntKind.i64.wrap ((p:Int)+a)=(p:Int)+a:=IntWalk.i64_in _ dg;have f4:IntKind.i64.wrap (p:Int)=(p:Int):=IntWalk.i64_in _ dg;go_upto_region 18 with fail;clear t2;go_cut[172]from 157 to 171 (λ_ Z=>Hid (PB w Z K M cap W H (part c y a z (z+1-a) (λk=>if k=a then⟨d,o,r,m,0⟩else bk o r m)) S d i o r m D E B C));case first=>have k0:=B6.cs.k0;have k2:=B6.cs.k2;have kc:=B6.cs.hc;rw[J.2]at k2 kc;have g0:=B6.cl.c0;have d0:=B6.cs.cv.c0 hy aW;rw[N.out]at d0;have fz:=B6.cs.cv.fz;have Q:=B6.cs.cv.setText hy aW d;rw[N.out,DF dg,ss dg]at Q;have HV:Hid (Cv 77 (wc.setCell (aj M ((p+a)*5)) (.string d)) M W H (part c y a z (z+1-a) (λk=>if k=a then⟨d,o,r,m,0⟩else bk o r m))):=Q;clear Q;go_region;all_goals go_wp2_with fail;go_meet;exact(B6.cells L.2.1 ((bp.refl M wc).set (.inl rfl) _ _) HV).more ((Gr.refl _).drew)
        case rest=>
         have B7:Hid (PB w wc K M cap W H (part c y a z (z+1-a) (λk=>if k=a then⟨d,o,r,m,0⟩else bk o r m)) S d i o r m D E B C):=hcut;clear hcut B6 g1;have g1:=B7.cl.c1;rcases hw with rfl|rfl
         ·go_wp2_with fail;go_end0;have zK:z=a:=by have:=zx.out;omega
          subst zK;refine⟨rfl,?_,B7.gr⟩;rw[zm.out,HX.out];have e:part c y z z (z+1-z) (λk=>if k=z then⟨d,o,r,m,0⟩else bk o r m)=part c y z z (z+1-z) (Fb z 1 d o r m):=ox (λk h1 h2=>by
           obtain rfl:k=z:=dg;rw[if_pos rfl];unfold Fb;rw[if_neg dg]);rw[<-e];exact B7.cs.cv
         ·have zj:Hid (z=a+1):=by have:=zx.out;show _=_;omega
          go_upto_region 20 with fail;clear g1;go_cut[189]from 176 to 188 (λ_ Z=>Hid (PB w Z K M cap W H (part c y a z (z+1-a) (λk=>if k=a then⟨d,o,r,m,1⟩else bk o r m)) S d 2 o r m D E B C));case first=>
           have k0:=B7.cs.k0;have k2:=B7.cs.k2;have kc:=B7.cs.hc;rw[J.2]at k2 kc;have d4:=B7.cs.cv.c4 hy aW;rw[N.out]at d4;have fz:=B7.cs.cv.fz;have Q:=B7.cs.cv.setPart hy aW 1;rw[N.out,DF dg,ss dg]at Q;have HV:Hid (Cv 77 (wc.setCell (aj M ((p+a)*5+4)) (Iq 1)) M W H (part c y a z (z+1-a) (λk=>if k=a then⟨d,o,r,m,1⟩else bk o r m))):=by
            have e:part c y a z (z+1-a) (λk=>if k=a then⟨d,o,r,m,1⟩else bk o r m)=part c y a z (z+1-a) (λk=>if k=a then{(if a=a then(⟨d,o,r,m,0⟩:Ce)else bk o r m)with p:=1}else if k=a then⟨d,o,r,m,0⟩else bk o r m):=ox (λk h1 h2=>by
             by_cases T:k=a;·rw[if_pos T,if_pos T,if_pos rfl]
             ·rw[if_neg T,if_neg T,if_neg T]);show Cv _ _ _ _ _ _;rw[e];exact Q
           clear Q;go_region;all_goals go_wp2_with fail;go_meet;exact(B7.cells L.2.1 ((bp.refl M wc).set (.inl rfl) _ _) HV).more ((Gr.refl _).drew)
          case rest=>
           have R:Hid (PB w wc K M cap W H (part c y a z (z+1-a) (λk=>if k=a then⟨d,o,r,m,1⟩else bk o r m)) S d 2 o r m D E B C):=hcut;clear hcut B7;have V:a+1<W:=by have:=zj.out;omega
           have zw:Hid (y*W*5+(a+1)*5=(p+a+1)*5):=by show _=_;rw[J.1];omega
           have zM:(p:Int)+a+1<(n:Int):=by have:=zj.out;omega
           have f5:IntKind.i64.wrap ((p:Int)+a+1)=(p:Int)+a+1:=IntWalk.i64_in _ dg;have k0:=R.cs.k0;have k2:=R.cs.k2;have kc:=R.cs.hc;rw[J.2]at k2 kc;have s0:=R.st.c0;have s1:=R.st.c1;have s2:=R.st.c2;have d0:=R.cs.cv.c0 hy V;have d1:=R.cs.cv.c1 hy V;have d2:=R.cs.cv.c2 hy V;have d3:=R.cs.cv.c3 hy V;have d4:=R.cs.cv.c4 hy V;rw[zw.out]at d0 d1 d2 d3 d4;have fz:=R.cs.cv.fz;go_wp2_with fail;go_region;all_goals
            go_wp2_with fail;go_end0;have VS:=R.cs.cv.set hy V ⟨Lo,o,r,m,2⟩;rw[zw.out,ss (by have:=zj.out;omega)]at VS;have e:part c y a z (z+1-a) (λk=>if k=a+1 then⟨Lo,o,r,m,2⟩else if k=a then⟨d,o,r,m,1⟩else bk o r m)=part c y a z (z+1-a) (Fb a 2 d o r m):=ox (λk h1 h2=>by
             have:=zj.out;unfold Fb;rw[if_pos rfl];by_cases T:k=a;·rw[if_neg dg,if_pos T,if_pos T]
             ·rw[if_pos dg,if_neg T]);rw[e]at VS;have BF:=(R.cells L.2.1 ((bp.refl M wc).set5 _ _ _ _ _) VS).more ((Gr.refl _).drew);refine⟨rfl,?_,BF.gr⟩;rw[zm.out,HX.out];exact BF.cs.cv
    ·have HE:Hid (fill c l.toNat (l+0).toNat t.toNat (t+v).toNat (putX l 0 i d f g b)=c):=fR dg;have g1:=BQ.cl.c1;have h1:¬x+i<=x+i-1:=dg
     have h2:(x+i==x)=false:=by rw[beq_eq_false_iff_ne];omega
     go_wp2_with fail;go_loopw[14] (λiv wi=>iv=Iq (x+i)/\wi=wc) (λ_ _=>0);case atStart=>exact⟨rfl,rfl⟩
     case round=>
      obtain⟨rfl,rfl⟩:=hrel;go_wp2_with fail;go_loopw[15] (λiv wi=>iv=Iq (x+i)/\wi=wr) (λ_ _=>0);case atStart=>exact⟨rfl,rfl⟩
      case round=>obtain⟨rfl,rfl⟩:=hrel;go_wp2_with fail;go_end0;exact⟨rfl,by rw[HE.out];exact BQ.cs.cv,BQ.gr⟩
end
section
variable{K M cap W H:Nat} {c:Nat->Nat->Ce}
theorem yE(w:World)(h:CS 71 77 w K M cap W H c)(o:1<=W/\W<=400)(m:1<=H/\H<=400)(hp:PAll W H c)(x y:Int)(a:ByteArray)(d f g b k l i j:Int):
 Calls Tryz.prog 41 #[Pq K,Iq x,Iq y,.agg #[.string a,Iq d],sv f g b,rv k l i j] w λe w'=>e=Rw (.tuple #[])/\Cv 77 w' M W H (eT W H c x y a d f g b k l i j)/\bp M w w':=by
 by_cases p:¬(d=1\/d=2)\/y<0\/(H:Int)<=y\/x< -1\/(W:Int)<=x;·rw[rA o m c x y a d f g b k l i j p];exact ag (JG w h o m x y a d f g b k l i j p) (λe w' hh=>⟨hh.1,h.cv.gr hh.2,bp.gr hh.2⟩)
 ·have q:d=1\/d=2:=dg
  have hy:0<=y/\y<H:=dg;have s:-1<=x/\x<W:=dg;obtain⟨y,rfl⟩:∃n:Nat,y=n:=⟨y.toNat,dg⟩;have r:=de (W:=W) (H:=H) dg dg x y d 1 k l i j;have:=Mv w h o m hp x y a d f g b k l i j q dg s _ _ _ _ r;unfold eT vy;rw[if_pos q];exact this
end
theorem lG{Q:World}{k b o:Nat}{x:Value}(h:Q.cell? (aj b o)=some x)(d:b≠k)(f v1 v2 g:Value):((((Q.setCell (aj k 0) f).setCell (aj k 1) v1).setCell (aj k 2) v2).setCell (aj k 3) g).cell? (aj b o)=some x:=by
 have a:∀j,((aj k j):Addr)≠(aj b o):=λj e=>by injection e with e _ _;exact d e.symm
 rw[c_ _ _ _ _ (a 3),c_ _ _ _ _ (a 2),c_ _ _ _ _ (a 1),c_ _ _ _ _ (a 0)];exact h
section
variable{K M cap W H:Nat} {c:Nat->Nat->Ce}
theorem Sj(p:1<=W/\W<=400)(n:1<=H/\H<=400)(hp:PAll W H c){L R T m k:Nat}(i:L<=m)(l:m<W)(j:k<H)(o:T<=k)(f g b a d e h:Int)(q:aJ a<=(m:Int)/\(m:Int)<aJ a+aO e/\aJ d<=(k:Int)/\(k:Int)<aJ d+aO h):
 eT W H (fill (fill c L R T k (λ_=>bk (kn f) (kn g) (bo b))) L m k (k+1) (λ_=>bk (kn f) (kn g) (bo b))) m k O1 1 f g b a d e h=fill (fill c L R T k (λ_=>bk (kn f) (kn g) (bo b))) L (m+1) k (k+1) (λ_=>bk (kn f) (kn g) (bo b)):=by
 rw[BX p n _ m k l j f g b a d e h q];refine Ic (W:=W) ?_ i l (λ_=>rfl);have:fill c L R T k (λ_=>bk (kn f) (kn g) (bo b)) k=c k:=by unfold fill;rw[if_neg dg]
 rw[this];exact hp k j
structure FB(w wi:World)(K M cap W H:Nat)(c:Nat->Nat->Ce)(S P:Nat)(f g b cx cy ca cb l t u v:Int):Prop where
 cs:CS 71 77 wi K M cap W H c
 st:R3 75 wi (S+1) f g b
 rc:R4 101 wi (S+1+1) cx cy ca cb
 al:R4 101 wi P l t u v
 gr:bp M w wi
theorem FB.cells{w wi a:World}{c d:Nat->Nat->Ce}{S P:Nat}{f g b j k e i l t u v:Int}(h:FB w wi K M cap W H c S P f g b j k e i l t u v)(m:M<S)(n:M<P)(q:bp M wi a)(V:Cv 77 a M W H d):FB w a K M cap W H d S P f g b j k e i l t u v:=
 ⟨h.cs.put q V,h.st.ch q dg,h.rc.ch q dg,h.al.ch q dg,h.gr.trans q⟩
theorem FQ(w:World)(h:CS 71 77 w K M cap W H c)(hW:1<=W/\W<=400)(hH:1<=H/\H<=400)(hp:PAll W H c)(x y a b f g q A B r s:Int):
 Calls Tryz.prog 37 #[Pq K,rv x y a b,sv f g q,rv A B r s] w λe w'=>e=Rw (.tuple #[])/\Cv 77 w' M W H (ir W H c x y a b f g q A B r s)/\bp M w w':=by
 have Y:=de (W:=W) (H:=H) dg dg x y a b A B r s;have CP:Hid (∀ax ay aw ah bx G bw bh w,Calls Tryz.prog 39 #[rv ax ay aw ah,rv bx G bw bh] w λe w'=>e=Rw (rv (d_ ax ay aw ah bx G bw bh).1 (d_ ax ay aw ah bx G bw bh).2.1 (d_ ax ay aw ah bx G bw bh).2.2.1 (d_ ax ay aw ah bx G bw bh).2.2.2)/\Gr w w'):=λax ay aw ah bx G bw bh w=>by rw[<-qw];exact rB ax ay aw ah bx G bw bh w
 obtain⟨q1,za⟩:=ad (d_ x y a b A B r s);have C1:=CP x y a b A B r s;rw[za]at C1;obtain⟨i0,i1,i2,i3⟩:=q1;obtain⟨q2,zb⟩:=ad (d_ 0 0 (W:Int) (H:Int) i0 i1 i2 i3);have C2:=CP i0 i1 i2 i3 0 0 W H;rw[<-qw,EF,qw,zb]at C2;obtain⟨l,t,u,v⟩:=q2;have HQ:Hid (cj W H x y a b A B r s=(l,t,u,v)):=by show _=_;unfold cj;rw[za];exact zb
 rw[HQ.out]at Y;simp only at Y;unfold ir;rw[HQ.out];simp only;clear za zb CP;have l0:=Y.l0;have t0:=Y.t0;have u0:=Y.u0;have v0:=Y.v0;obtain⟨L,rfl⟩:∃n:Nat,l=n:=⟨l.toNat,dg⟩;obtain⟨T,rfl⟩:∃n:Nat,t=n:=⟨t.toNat,dg⟩;obtain⟨U,rfl⟩:∃n:Nat,u=n:=⟨u.toNat,dg⟩;obtain⟨V,rfl⟩:∃n:Nat,v=n:=⟨v.toNat,dg⟩;have zU:L+U<=W:=by have:=Y.lu;omega
 have zV:T+V<=H:=by have:=Y.tv;omega
 have HF:Hid (jQ W H x y a b A B r s L T U V):=Y;have HP:Hid (PAll W H c):=hp;have Q:Hid (((L:Int)).toNat=L/\((L:Int)+(U:Int)).toNat=L+U/\((T:Int)).toNat=T/\((T:Int)+(V:Int)).toNat=T+V):=⟨dg,dg,dg,dg⟩;rw[Q.1,Q.2.1,Q.2.2.1,Q.2.2.2];clear l0 t0 u0 v0 Y Q HQ hp;have PT:Hid (∀(k m:Nat) (wq:World),L<=m->m<L+U->T<=k->k<T+V->CS 71 77 wq K M cap W H (fill (fill c L (L+U) T k (λ_=>bk (kn f) (kn g) (bo q))) L m k (k+1) (λ_=>bk (kn f) (kn g) (bo q)))->Calls Tryz.prog 41 #[Pq K,Iq m,Iq k,.agg #[.string ⟨#[32]⟩,Iq 1],sv f g q,rv A B r s] wq λe w'=>e=Rw (.tuple #[])/\Cv 77 w' M W H (fill (fill c L (L+U) T k (λ_=>bk (kn f) (kn g) (bo q))) L (m+1) k (k+1) (λ_=>bk (kn f) (kn g) (bo q)))/\bp M wq w'):=λk m wq h1 h2 h3 h4 hq=>by have:=yE wq hq hW hH ((HP.fill0 dg (λ_=>rfl)).fill0 dg (λ_=>rfl)) m k O1 1 f g q A B r s;have mm:=(HF.mem m k).1 dg;rw[Sj hW hH HP.out h1 dg dg h3 f g q A B r s mm.2.2]at this;exact this
 have HC:Hid (CS 71 77 w K M cap W H c):=h;obtain⟨X,hX⟩:∃z:Nat->Ce,(λ_=>bk (kn f) (kn g) (bo q))=z:=⟨_,rfl⟩;rw[hX]at PT⊢;clear hX;unfold rv at C1 C2 PT⊢;unfold sv at PT⊢;simp only at C1 C2;have k0:=h.k0;have k1:=h.k1;have kl:=h.klt;have ml:=h.cv.lt;clear h;go_enter Tryz.func37,Tryz.ntmps37;go_wp2_with fail;obtain⟨S,hS⟩:=ad w.heap.size;have HS:Hid (w.heap.size=S):=hS;obtain⟨I,J⟩:=ad (((w.alloc (.cells #[Iq x,Iq y,Iq a,Iq b] 101)).alloc (.cells #[Iq f,Iq g,Iq q] 75)).alloc (.cells #[Iq A,Iq B,Iq r,Iq s] 101));have G0:Hid (Gr w I):=by rw[<-J];exact(((Gr.refl w).alloc _).alloc _).alloc _
 have E:Hid (R4 101 I S x y a b):=by rw[<-J,<-hS];exact(R4.new w _ _ _ _ _).gr (((Gr.refl _).alloc _).alloc _)
 have RS:Hid (R3 75 I (S+1) f g q):=by have:=R3.new (w.alloc (.cells #[Iq x,Iq y,Iq a,Iq b] 101)) f g q 75;simp only[au,hS]at this;rw[<-J];exact this.gr ((Gr.refl _).alloc _)
 have C:Hid (R4 101 I (S+1+1) A B r s):=by have:=R4.new ((w.alloc (.cells #[Iq x,Iq y,Iq a,Iq b] 101)).alloc (.cells #[Iq f,Iq g,Iq q] 75)) A B r s 101;simp only[au,hS]at this;rw[<-J];exact this
 have N:Hid (CS 71 77 I K M cap W H c):=HC.gr G0;have zF:Hid (K<S/\M<S):=by rw[<-hS];exact⟨kl,ml⟩
 rw[J,hS];clear J hS k0 k1 kl ml;have k0:=N.k0;have k1:=N.k1;have kl:=N.klt;have a0:=E.c0;have a1:=E.c1;have a2:=E.c2;have a3:=E.c3;have al:=E.lt;have b0:=C.c0;have b1:=C.c1;have b2:=C.c2;have b3:=C.c3;have bl:=C.lt;go_cut[8]from 11 to 23 (λp wx=>∃P,p=Pq P/\Hid (R4 101 wx P L T U V/\Gr I wx/\I.heap.size<=P));case first=>
  go_region_held(λZ=>Z.cell? (aj S 0)=some (Iq x)/\Z.cell? (aj S 1)=some (Iq y)/\Z.cell? (aj S 2)=some (Iq a)/\Z.cell? (aj S 3)=some (Iq b)/\Z.cell? (aj (S+1+1) 0)=some (Iq A)/\Z.cell? (aj (S+1+1) 1)=some (Iq B)/\Z.cell? (aj (S+1+1) 2)=some (Iq r)/\Z.cell? (aj (S+1+1) 3)=some (Iq s)/\Z.cell? (aj K 0)=some (Iq W)/\Z.cell? (aj K 1)=some (Iq H)) (first|go_keep|exact⟨lG ze dg _ _ _ _,lG zg dg _ _ _ _,lG zh dg _ _ _ _,lG zi dg _ _ _ _,lG zj dg _ _ _ _,lG zk dg _ _ _ _,lG zl dg _ _ _ _,lG zm dg _ _ _ _,lG zL dg _ _ _ _,lG zK dg _ _ _ _⟩) (first|(go_at_call 39;(with_reducible refine ag (C1 _) ?_);rintro e w1 ⟨rfl,D⟩;have d:Hid (Gr I w1):=(by first|exact D|exact((Gr.refl I).drew).trans D|exact((Gr.refl I).alloc _).trans D|exact(((Gr.refl I).alloc _).drew).trans D|exact(((Gr.refl I).drew).alloc _).trans D);have zM:=(E.out.gr d.out).c0;have zN:=(E.out.gr d.out).c1;have zO:=(E.out.gr d.out).c2;have zP:=(E.out.gr d.out).c3;have ml1:=(E.out.gr d.out).lt;have zQ:=(C.out.gr d.out).c0;have zR:=(C.out.gr d.out).c1;have zS:=(C.out.gr d.out).c2;have zT:=(C.out.gr d.out).c3;have nl1:=(C.out.gr d.out).lt;have kk1:=(N.out.gr d.out).k0;have zZ:=(N.out.gr d.out).k1;have kz1:=(N.out.gr d.out).klt;(first|(have o:Hid (R4 101 w1 _ 0 0 0 0):=(R4.new _ 0 0 0 0 101).gr D;have zx:=o.out.c0;have zn:=o.out.fz 0;have zy:=o.out.c1;have zo:=o.out.fz 1;have zz:=o.out.c2;have zq:=o.out.fz 2;have zA:=o.out.c3;have zr:=o.out.fz 3;have x1:=o.out.lt)|(have o:Hid (R4 101 w1 _ 0 0 0 0):=((R4.new _ 0 0 0 0 101).gr ((Gr.refl _).drew)).gr D;have zx:=o.out.c0;have zn:=o.out.fz 0;have zy:=o.out.c1;have zo:=o.out.fz 1;have zz:=o.out.c2;have zq:=o.out.fz 2;have zA:=o.out.c3;have zr:=o.out.fz 3;have x1:=o.out.lt)|skip);clear D)|(go_at_call 39;(with_reducible refine ag (C2 _) ?_);rintro e w2 ⟨rfl,R⟩;have i:Hid (Gr I w2):=(by first|exact d.out.trans R|exact(d.out.alloc _).trans R);have ze:=(E.out.gr i.out).c0;have zg:=(E.out.gr i.out).c1;have zh:=(E.out.gr i.out).c2;have zi:=(E.out.gr i.out).c3;have ml2:=(E.out.gr i.out).lt;have zj:=(C.out.gr i.out).c0;have zk:=(C.out.gr i.out).c1;have zl:=(C.out.gr i.out).c2;have zm:=(C.out.gr i.out).c3;have nl2:=(C.out.gr i.out).lt;have zL:=(N.out.gr i.out).k0;have zK:=(N.out.gr i.out).k1;have kz2:=(N.out.gr i.out).klt;(first|(have j:Hid (R4 101 w2 _ 0 0 0 0):=o.out.gr R;have zB:=j.out.c0;have zt:=j.out.fz 0;have zC:=j.out.c1;have zu:=j.out.fz 1;have zD:=j.out.c2;have zv:=j.out.fz 2;have zE:=j.out.c3;have zw:=j.out.fz 3;have x2:=j.out.lt)|(have j:Hid (R4 101 w2 _ 0 0 0 0):=(R4.new _ 0 0 0 0 101).gr R;have zB:=j.out.c0;have zt:=j.out.fz 0;have zC:=j.out.c1;have zu:=j.out.fz 1;have zD:=j.out.c2;have zv:=j.out.fz 2;have zE:=j.out.c3;have zw:=j.out.fz 3;have x2:=j.out.lt)|skip);clear R));all_goals
   go_wp2_with fail;go_meet;first
    |exact⟨_,rfl,j.set _ _ _ _,i.set4 (ae _) _ _ _ _,ae _⟩
    |exact⟨_,rfl,j.set _ _ _ _,i.set4 d.size _ _ _ _,d.size⟩
    |exact⟨_,rfl,R4.new _ _ _ _ _ _,i.alloc _,i.size⟩
 case rest=>
  obtain⟨P,rfl,F⟩:=hcut;have zG:Hid (M<P):=by have h1:=F.2.2;have h2:=N.cv.lt;show M<P;omega
  have F0:Hid (FB w wc K M cap W H c S P f g q A B r s L T U V):=⟨N.gr F.2.1,RS.gr F.2.1,C.gr F.2.1,F.1,bp.gr (G0.trans F.2.1)⟩;clear F E C RS N G0 C1 C2 k0 k1 kl a0 a1 a2 a3 al b0 b1 b2 b3 bl;have r1:=F0.al.c1;go_wp2_with fail;clear r1;go_loopw[9] (λiv wi=>∃k:Nat,T<=k/\k<=T+V/\iv=Iq k/\Hid (FB w wi K M cap W H (fill c L (L+U) T k X) S P f g q A B r s L T U V)) (λiv _=>T+V-(intOf iv).toNat);case atStart=>exact⟨T,ae _,dg,rfl,by rw[fR dg];exact F0⟩
  case round=>
   obtain⟨k,zc,zX,rfl,HR⟩:=hrel;have r0:=HR.al.c0;have r1:=HR.al.c1;have r3:=HR.al.c3;by_cases hk:k<T+V
   ·have zH:(k:Int)<(T:Int)+(V:Int):=dg
    go_wp2_with fail;clear r0 r1 r3;go_loopw[10] (λiv wi=>∃m:Nat,L<=m/\m<=L+U/\iv=Iq m/\Hid (FB w wi K M cap W H (fill (fill c L (L+U) T k X) L m k (k+1) X) S P f g q A B r s L T U V)) (λiv _=>L+U-(intOf iv).toNat);case atStart=>exact⟨L,ae _,dg,rfl,by rw[fR (c:=fill c L (L+U) T k X) dg];exact HR⟩
    case round=>
     obtain⟨m,zJ,zY,rfl,O⟩:=hrel;have q0:=O.al.c0;have q2:=O.al.c2;have s0:=O.st.c0;have s1:=O.st.c1;have s2:=O.st.c2;have t0:=O.rc.c0;have t1:=O.rc.c1;have t2:=O.rc.c2;have t3:=O.rc.c3;by_cases hm:m<L+U
     ·have zI:(m:Int)<(L:Int)+(U:Int):=dg
      have PK:Hid (∀wq,_->_):=λwq hq=>PT k m wq zJ hm zc hk hq;go_wp2_with(go_at_call 41;refine ag (PK _ O.cs) ?_;rintro e1 w3 ⟨rfl,V3,C3⟩;have B3:Hid (FB w w3 K M cap W H (fill (fill c L (L+U) T k X) L (m+1) k (k+1) X) S P f g q A B r s L T U V):=O.cells zF.2 zG C3 V3;clear V3 C3);go_roundw;case rel=>exact⟨m+1,dg,dg,by go_num,B3⟩
      case measure=>simp[intOf];omega
     ·have zI:¬(m:Int)<(L:Int)+(U:Int):=dg
      obtain rfl:m=L+U:=dg;go_wp2_with fail;go_roundw;case rel=>exact⟨k+1,dg,dg,by go_num,by have:=O.out;rw[tJ zc]at this;exact this⟩
      case measure=>simp[intOf];omega
   ·have zH:¬(k:Int)<(T:Int)+(V:Int):=dg
    obtain rfl:k=T+V:=dg;go_wp2_with fail;go_end0;exact⟨rfl,HR.cs.cv,HR.gr⟩
end
