import Derived.Test.YtehgehanbnkdiaaGreatDoorQ02
import Derived.Deep.CutRange
set_option linter.all false
set_option maxRecDepth 100000
set_option maxHeartbeats 16000000
namespace Go.Proofs.YtehgehanbnkdiaaGreatDoor
open Go.RowKit Go.Proofs.Tryz
def T5(w:AT)(rb:Nat)(lv:Fd)(n:Nat):Prop:=∃p cap,lv=.slice p n cap/\∀k,k<n->∃g av x,p=some (aq g 0)/\g≠rb/\av≠rb/\w.cell? (aq g (k*5+1))=some (Sq av 12 12)/\w.cell? (aq av 0)=some (Iq x)
def RU(_:Nat)(v:Fd):Prop:=∃b:Bool,v=.bool b
def MO:Fd->Bool
 |.bool b=>b
 |_=>false
section
variable{rb i j:Nat} {s:BY} {lv:Fd} {bad at_ bi dY:Int} {w w' u u':AT} {x:Nat->Int->Int->Prop} {ab sb:Nat}
theorem KJ.rd(h:KJ rb s lv i bad at_ w):rdI w rb=i:=by obtain⟨_,_,_,r,_⟩:=h;exact r.rdI
theorem KJ.c(h:KJ rb s lv i bad at_ w):w.cell? (aq rb 1)=some (Iq (i:Int))/\w.cell? (aq rb 2)=some lv/\w.cell? (aq rb 3)=some (Iq bad):=by obtain⟨_,_,_,r,_⟩:=h;exact⟨r.c1,r.c2,r.c3⟩
structure xB(w:AT)(rb ab sb:Nat)(s:BY)(lv:Fd)(i:Nat)(bad at_:Int)(i':Nat)(bi dY:Int)(u:AT):Prop where
 j:KJ rb s lv i' bi dY u
 d:KD rb i bad at_ w i' bi dY u
 a:KB u ab 12 KZ
 s:KB u sb 12 RU
 n:rb<w.heap.size/\w.heap.size<=ab/\w.heap.size<=sb/\ab≠sb
def tZ(w:AT)(rb ab sb:Nat)(s:BY)(lv:Fd)(i:Nat)(bad at_:Int)(m:Nat)(u:AT):Prop:=∃i' bi dY,m<=i'/\xB w rb ab sb s lv i bad at_ i' bi dY u
variable{i' m:Nat}
theorem xB.on(h:xB w rb ab sb s lv i bad at_ i' bi dY u){e:Nat}{c b:Int}(k:KJ rb s lv e c b u')(hd:KD rb i' bi dY u e c b u'):xB w rb ab sb s lv i bad at_ e c b u':=by have g:=hd.2.2.2;obtain⟨l,o,p,q⟩:=h.n;exact⟨k,h.d.trans hd,h.a.of g.size (g.block _ h.a.1 (by simp;omega)),h.s.of g.size (g.block _ h.s.1 (by simp;omega)),h.n⟩
theorem xB.below(h:xB w rb ab sb s lv i bad at_ i' bi dY u)(b:Bq u u'):xB w rb ab sb s lv i bad at_ i' bi dY u':=by obtain⟨l,c,om,r,e⟩:=h.j;exact h.on ⟨l,c,om,r.below b,e⟩ ⟨ad _,id,id,db b⟩
theorem xB.set(h:xB w rb ab sb s lv i bad at_ i' bi dY u){g k:Nat}{v:Fd}(o:(g=ab/\KZ k v)\/(g=sb/\RU k v)):xB w rb ab sb s lv i bad at_ i' bi dY (u.setCell (aq g k) v):=by
 obtain⟨B,C,D,p⟩:=h.n;obtain⟨l,t,om,r,e⟩:=h.j;have A:rb≠g:=by rcases o with⟨e,_⟩|⟨e,_⟩<;>omega
 have hh:=aH u (aq g k) v rb A;have c:=λj=>aO (a:=(aq rb j)) hh;have d:=h.d.2.2.2;refine⟨⟨l,t,om,⟨by simpa[World.setCell]using r.lt,(c 0).trans r.c0,(c 1).trans r.c1,(c 2).trans r.c2,(c 3).trans r.c3,(c 4).trans r.c4,(c 5).trans r.c5,(c 6).trans r.c6,λj=>(ji hh).trans (r.fz j)⟩,e⟩,⟨h.d.1,h.d.2.1,h.d.2.2.1,d.os,d.tape,d.output,by simpa[World.setCell]using d.size,λb y z=>(aH u (aq g k) v b ?_).trans (d.block b y z)⟩,h.a.set _ _ _ λe=>?_,h.s.set _ _ _ λe=>?_,h.n⟩;·show b≠g;rcases o with⟨e,_⟩|⟨e,_⟩<;>omega
 ·exact(o.resolve_right λq=>p (e.symm.trans q.1)).2
 ·exact(o.resolve_left λq=>p (q.1.symm.trans e)).2
theorem tZ.step(h:xB w rb ab sb s lv i bad at_ i' bi dY u)(g:m<=i')(k:KE rb s lv i' bi dY u x u'):∃b d c,x b d c/\m<=b/\i'<=b/\xB w rb ab sb s lv i bad at_ b d c u':=by obtain⟨b,d,c,l,e,n⟩:=k;exact⟨b,d,c,n,az g e.1,e.1,h.on l e⟩
theorem KB.bools(w:AT):KB (w.alloc (.cells #[.bool false,.bool false,.bool false,.bool false,.bool false,.bool false,.bool false,.bool false,.bool false,.bool false,.bool false,.bool false] 4)) w.heap.size 12 RU:=KB.lit w [.bool false,.bool false,.bool false,.bool false,.bool false,.bool false,.bool false,.bool false,.bool false,.bool false,.bool false,.bool false] 4 (p:=λv=>match v with|.bool _=>true|_=>false) (λv j h=>by cases v<;>simp at h;exact⟨_,rfl⟩) rfl
theorem N4(h:KJ rb s lv i bad at_ w)(M:s.size<=4000)(hr:rb<w.heap.size)(kd:Int){n:Nat}(Z:T5 w rb lv n)(hn:n<=4000):
 Cw 78 #[Pq rb,Iq kd] w λe w'=>(∃ab,e=Rw (Sq ab 12 12)/\w.heap.size<=ab/\KB w' ab 12 KZ)/\KE rb s lv i bad at_ w (λ_ _ _=>True) w':=by
 obtain⟨o,cl,rfl,Z⟩:=Z;replace Z:=qH Z;replace hr:=qH hr;replace h:=qH h;go_enter func78,ntmps78;go_wp2_with fail;refine(tq w).2.2.2.mono ?_;rintro e w1 ⟨rfl,F,C⟩;have J1:Hid (KJ rb s (.slice o n cl) i bad at_ w1):=by obtain⟨l,er,om,r,e⟩:=h.out;exact⟨l,er,om,r.below C,e⟩
 obtain⟨ab,ze⟩:=af w.heap.size;replace C:=qH C;replace F:=qH F;rw[ze];rw[ze]at F hr;go_wp2_with fail;refine(J' J1.out M 123).mono ?_;rintro e R ⟨bb,rfl,i2,b2,a2,j2,d2,_,_,_⟩;have D2:Hid (KD rb i bad at_ w i2 b2 a2 R):=KD.trans ⟨ad _,id,id,db C⟩ d2;have K2:Hid (KB R ab 12 KZ):=F.out.of d2.2.2.2.size (d2.2.2.2.block _ F.out.1 (by have:=hr.out;simp;omega));replace j2:=qH j2;clear d2 J1 F;cases bb;·go_wp2;go_ret;exact⟨⟨ab,rfl,dg,K2⟩,i2,b2,a2,j2,D2,trivial⟩
 have zt:∀w:AT,(Instr.makeSlice 106 (Iq 12) (Iq 12)).run prog w=.ok (Sq w.heap.size 12 12) (w.alloc (.cells #[.bool false,.bool false,.bool false,.bool false,.bool false,.bool false,.bool false,.bool false,.bool false,.bool false,.bool false,.bool false] 4)):=λw=>pt;obtain⟨sb,zk⟩:=af R.heap.size;obtain⟨w3,N⟩:=af (R.alloc (.cells #[.bool false,.bool false,.bool false,.bool false,.bool false,.bool false,.bool false,.bool false,.bool false,.bool false,.bool false,.bool false] 4));have A0:Hid (xB w rb ab sb s (.slice o n cl) i bad at_ i2 b2 a2 w3):=by
  have y:Bq R w3:=by rw[<-N];exact(ac _ _).alloc (ad _) _
  obtain⟨l,er,om,r,e⟩:=j2.out;have:=K2.out.1;have:=hr.out;have:=D2.out.2.2.2.size;exact⟨⟨l,er,om,r.below y,e⟩,D2.out.trans ⟨ad _,id,id,db y⟩,K2.out.below y,by rw[<-N,<-zk];exact KB.bools R,dg,dg,dg,dg⟩
 clear D2 K2 j2;go_wp2_with fail;clear zt N zk;go_loopw[7] (λmv wi=>∃(more:Bool) (t:Nat) (C a1:Int),mv=.bool more/\Hid (xB w rb ab sb s (.slice o n cl) i bad at_ t C a1 wi)) (λmv wi=>if MO mv then s.size+1-rdI wi rb else 0);case atStart=>exact⟨true,i2,b2,a2,rfl,A0⟩
 case round=>
  obtain⟨more,t,C,a1,rfl,B⟩:=hrel;have c3:=B.out.j.c.2.2;have zn:=qH B.out.j.rd;have HI:=qH B.out.j.1;have zl:Hid (Cw 80 #[Pq rb,.int .u8 125] wr λe u=>e=Rw (.tuple #[])/\Hid (KB u ab 12 KZ)/\Hid (KE rb s (.slice o n cl) i bad at_ w (λ_ _ _=>True) u)):=(AU B.out.j M 125).mono λe u ⟨Y,D,y,J,F,k2,_⟩=>⟨Y,(B.out.on F k2).a,D,y,J,F,B.out.d.trans k2,trivial⟩;have zg:Hid (w.heap.size<=ab):=B.out.n.2.1;by_cases zh:more=true/\C<0;rotate_right
  ·have zr:more=false\/(more=true/\¬C<0):=by cases more<;>simp_all
   rcases zr with rfl|⟨rfl,hb⟩;focus skip
   rotate_right;focus have eb:=decide_eq_false hb
   all_goals clear zh;go_wp2_with fail;refine zl.out.mono ?_;rintro e u ⟨rfl,K,E⟩;go_wp2;go_ret;exact⟨⟨ab,rfl,zg,K⟩,E⟩
  obtain⟨rfl,hb⟩:=zh;have eb:=decide_eq_true hb;go_wp2_with fail;refine(rJ B.out.j M).mono ?_;rintro e w4 ⟨rfl,E4⟩;obtain⟨O,b4,a4,_,l4,_,Q⟩:=tZ.step B.out (ad _) E4;have c1:=Q.j.c.1;replace Q:=qH Q;clear E4 c3;go_wp2_with fail;refine(MM Q.out.j M).mono ?_;rintro e w5 ⟨⟨tx,rfl⟩,E5⟩;obtain⟨i5,b5,a5,_,l5,_,T⟩:=tZ.step Q.out l4 E5;replace T:=qH T;clear E5 c1 Q;go_wp2_with fail;refine(AU T.out.j M 61).mono ?_;rintro e w6 ⟨rfl,E6⟩;obtain⟨i6,b6,a6,_,l6,_,U⟩:=tZ.step T.out l5 E6;replace U:=qH U;clear E6 T;go_wp2_with fail;refine(Ka U.out.j M).mono ?_;rintro e w7 ⟨⟨sN,sp,rfl⟩,E7⟩;obtain⟨i7,b7,a7,_,l7,_,H7⟩:=tZ.step U.out l6 E7;replace H7:=qH H7;clear E7 U;go_wp2_with fail;refine(tq w7).2.1.mono ?_;rintro e w8 ⟨rfl,k8,b8⟩;have H8:=qH (H7.out.below b8);replace k8:=qH k8;clear b8 H7;go_wp2_with fail;refine(ML k8.out dg tx).mono ?_;rintro e w9 ⟨⟨sx,rfl,x0,x1⟩,zv⟩;obtain rfl:=zv.symm;clear k8;have S:Hid (∀u,tZ w rb ab sb s (.slice o n cl) i bad at_ t u->Cw 118 #[Pq rb,.int .u8 59] u λe u'=>∃b,e=Rw (.bool b)/\∃D y J,Hid (xB w rb ab sb s (.slice o n cl) i bad at_ D y J u')/\(b=true->t<D)):=λu ⟨D,y,J,l,H⟩=>(J' H.j M 59).mono λe u' ⟨b,Y,E⟩=>by obtain⟨O,b4,a4,h,_,_,H'⟩:=tZ.step H l E;exact⟨b,Y,O,b4,a4,H',λe=>Nat.lt_of_le_of_lt l (h.2.2 e)⟩
  have X:Hid (∀u (e:Int) (p:Nat),e≠0->tZ w rb ab sb s (.slice o n cl) i bad at_ t u->Cw 77 #[Pq rb,Iq e,Iq (p:Int)] u λr u'=>r=Rw (.tuple #[])/\Hid (tZ w rb ab sb s (.slice o n cl) i bad at_ t u')):=λu e p he ⟨D,y,J,l,H⟩=>(yl H.j e p he).mono λr u' ⟨Y,E⟩=>by obtain⟨O,b4,a4,_,l4,_,H'⟩:=tZ.step H l E;exact⟨Y,O,b4,a4,l4,H'⟩
  have V:Hid (tZ w rb ab sb s (.slice o n cl) i bad at_ t w8):=⟨i7,b7,a7,l7,H8⟩;clear H8;by_cases h0:sx<0;focus have zo:=decide_eq_true h0;go_wp2_with fail;refine(X.out _ 7 O (by decide) V.out).mono ?_;rintro e u ⟨rfl,UZ⟩
  rotate_right;focus
   obtain⟨q,rfl⟩:=cU (by omega:0<=sx);have zo:decide ((q:Int)<0)=false:=decide_eq_false h0;have hq:q<12:=dg
   obtain⟨_,_,_,_,G⟩:=V.out;obtain⟨_,_,zu,bs,rfl⟩:=G.s.2 q hq;have OW:=qH (Ql kd (q:Int) w8);clear G;go_upto_if 57 with(go_at_call 121;refine OW.out.mono ?_;rintro e wo ⟨⟨c,rfl⟩,zw⟩;obtain rfl:=zw.symm);cases c;focus go_wp2_with fail;refine(X.out _ 7 O (by decide) V.out).mono ?_;rintro e u ⟨rfl,UZ⟩
   rotate_right;focus
    go_upto_if 64 with fail;clear zu OW;go_cut[67]from 65 to 66 (λ_ P=>Hid (tZ w rb ab sb s (.slice o n cl) i bad at_ t P));case first=>
     cases bs;·go_wp2_with fail;go_meet;exact V
     ·go_wp2_with fail;refine(X.out _ 5 O (by decide) V.out).mono ?_;rintro e u ⟨rfl,UY⟩;go_wp2_with fail;go_meet;exact UY
    obtain⟨i9,b9,a9,l9,I⟩:=id hcut.out;obtain⟨s1,_,s0,_,rfl⟩:=I.s.2 q hq;obtain⟨wd,A⟩:=af (wc.setCell (aq sb q) (.bool true));have UD:Hid (xB w rb ab sb s (.slice o n cl) i bad at_ i9 b9 a9 wd):=by rw[<-A];exact I.set (.inr ⟨rfl,_,rfl⟩)
    clear hcut I;go_wp2_with fail;clear A s0 s1;refine(tq wd).2.2.1.mono ?_;rintro e we ⟨rfl,ke,be⟩;have W:Hid (tZ w rb ab sb s (.slice o n cl) i bad at_ t we):=⟨_,_,_,l9,UD.out.below be⟩;obtain⟨_,_,hm,mo,rfl⟩:=ke.2 q hq;clear ke be UD;go_upto_if 76 with fail;clear hm;go_cut[76,79]from 77 to 78 (λ_ _ P=>Hid (tZ w rb ab sb s (.slice o n cl) i bad at_ t P));case first=>
     by_cases zi:mo<sN;·have zq:=decide_eq_true zi;go_wp2_with fail;refine(X.out _ 6 sp (by decide) W.out).mono ?_;rintro e u ⟨rfl,UY⟩;go_wp2_with fail;go_meet;exact UY
     ·have zq:=decide_eq_false zi;go_wp2_with fail;go_meet;exact W
    have W:=hcut;clear hcut;go_upto_region 21 with fail;go_cut[85]from 80 to 84 (λv P=>∃bd:Bool,v=.bool bd/\Hid (tZ w rb ab sb s (.slice o n cl) i bad at_ t P));case first=>obtain⟨z1,e1⟩:=af ((q:Int)==0);obtain⟨z2,e2⟩:=af (decide (0<sN));cases z1<;>cases z2;all_goals go_wp2_with fail;go_meet;exact⟨_,rfl,W⟩
    obtain⟨bd,rfl,UF⟩:=hcut;clear W;go_upto_if 85 with fail;go_cut[13]from 86 to 109 (λ_ P=>Hid (tZ w rb ab sb s (.slice o n cl) i bad at_ t P));case first=>
     cases bd;·go_wp2_with fail;go_meet;exact UF
     go_wp2_with fail;go_loopw[13] (λiv wi=>∃k:Nat,k<=n/\iv=Iq k/\Hid (tZ w rb ab sb s (.slice o n cl) i bad at_ t wi)) (λiv _=>n-(intOf iv).toNat);case atStart=>exact⟨0,aP _,rfl,UF⟩
     case round=>
      obtain⟨k,hk,rfl,UI⟩:=hrel;obtain⟨_,_,_,_,G⟩:=id UI.out;have c2:=G.j.c.2.1;by_cases L:k<n
      ·have zj:(k:Int)<(n:Int):=dg
       obtain⟨g,av,z,rfl,g1,g2,g3,g4⟩:=Z.out k L;have q1:=G.d.2.2.2.cell g3 (by simpa using g1);have q4:=G.d.2.2.2.cell g4 (by simpa using g2);clear G g1 g2 g3 g4;obtain⟨z1,e1⟩:=af (z==sN);cases z1;focus go_wp2_with fail;have UJ:=UI
       rotate_right;focus go_wp2_with fail;refine(X.out _ 5 sp (by decide) UI.out).mono ?_;rintro e u ⟨rfl,UJ⟩;go_wp2_with fail
       all_goals
        go_roundw;case rel=>exact⟨k+1,dg,by go_num,UJ⟩
        case measure=>simp only[intOf];omega
      ·have zj:¬(k:Int)<(n:Int):=dg
       clear G;go_wp2_with fail;go_meet;exact UI
    obtain⟨i9,b9,a9,l9,I⟩:=id hcut.out;obtain⟨s1,_,s0,zz,rfl⟩:=I.a.2 q hq;obtain⟨wd,A⟩:=af (wc.setCell (aq ab q) (Iq sN));have UZ:Hid (tZ w rb ab sb s (.slice o n cl) i bad at_ t wd):=⟨i9,b9,a9,l9,by rw[<-A];exact I.set (.inl ⟨rfl,_,rfl⟩)⟩;clear I hcut UF;go_wp2_with fail;clear A s0 s1
  all_goals
   first|(go_wp2_with fail;refine(S.out _ UZ.out).mono ?_)|refine(S.out _ UZ.out).mono ?_
   rintro e u3 ⟨b,rfl,D,y,J,H3,L⟩;have zm:=qH H3.out.j.rd;have zy:=H3.out.j.1;have zx:=HI.out;go_wp2_with fail;go_roundw;case rel=>exact⟨b,D,y,J,rfl,H3⟩
   case measure=>
    rw[zm.out,zn.out];cases b with
    |false=>show 0<s.size+1-t;omega
    |true=>have:=L rfl;show s.size+1-D<s.size+1-t;omega
end
def dR(W:AT)(b:Nat)(v:Nat->Fd):Prop:=b<W.heap.size/\∀k,k<12->W.cell? (aq b k)=some (v k)/\W.frozen? (aq b k)=false
theorem lk{W c:AT}{b}(h:c.heap[b]?=W.heap[b]?)k:c.frozen? (aq b k)=W.frozen? (aq b k):=by unfold World.frozen?;rw[h]
theorem dR.keep{W c}{b}{v}(h:dR W b v)(g:W.heap.size<=c.heap.size)(d:c.heap[b]?=W.heap[b]?):dR c b v:=
 ⟨zz006 h.1 g,λk e=>⟨(aO (a:=(aq b k)) d).trans (h.2 k e).1,(lk d k).trans (h.2 k e).2⟩⟩
theorem dR.grown{W c}{b r}{v}(h:dR W b v)(g:W.grownBy c (some r))(d:b≠r):dR c b v:=h.keep g.size (g.block b h.1 (λe=>d rn))
theorem dR.below{W W'}{b}{v}(h:dR W b v)(g:Bq W W'):dR W' b v:=h.keep g.size (g.block b h.1)
theorem dR.set{W}{b k}{v}(h:dR W b v)(d:k<12)u:dR (W.setCell (aq b k) u) b (λj=>if j=k then u else v j):=by
 refine⟨by simpa[World.setCell]using h.1,λj c=>⟨?_,(eG _ _ _ _).trans (h.2 j c).2⟩⟩;by_cases e:j=k;·subst e;show _=some (if j=j then u else v j);rw[if_pos rfl];exact jY _ _ _ (h.2 j c).1
 ·show _=some (if j=k then u else v j);rw[if_neg e,b_ _ _ _ _ (λq=>rn)];exact(h.2 j c).1
theorem dR.other{W}{b c k}{v}(h:dR W b v)(d:b≠c)u:dR (W.setCell (aq c k) u) b v:=
 h.keep (by simp_all) (aH W (aq c k) u b d)
theorem RS.other{W}{rb b k}{s}{i}{lv}{bad d at_ om}(h:RS W rb s i lv bad d at_ om)(e:rb≠b)u:RS (W.setCell (aq b k) u) rb s i lv bad d at_ om:=by have hh:=aH W (aq b k) u rb e;have c:=λj=>aO (a:=(aq rb j)) hh;exact⟨by simpa[World.setCell]using h.lt,(c 0).trans h.c0,(c 1).trans h.c1,(c 2).trans h.c2,(c 3).trans h.c3,(c 4).trans h.c4,(c 5).trans h.c5,(c 6).trans h.c6,λj=>(lk hh j).trans (h.fz j)⟩
structure AS(w wi:AT)(rb ab sb:Nat)(s:BY)(i:Nat)(lv:Fd)(bad om:Int)(f:fA)(j:Nat)(a:zzc)(seen:zzh):Prop where
 rs:∃er at_,RS wi rb s i lv bad er at_ om/\FL er at_ f j
 len:a.length=12
 ar:dR wi ab (λk=>Iq (a[k]?.getD 0))
 sr:dR wi sb (λk=>.bool (seen.contains k))
 gr:w.grownBy wi (some rb)
structure AB(w:AT)(rb ab sb:Nat):Prop where
 r:rb<w.heap.size
 a:w.heap.size<=ab
 s:w.heap.size<=sb
 ne:ab≠sb
section
variable{w wi wj:AT} {rb ab sb:Nat} {s:BY} {i i' j j':Nat} {lv:Fd} {bad bi om:Int} {f f':fA} {a:zzc} {seen:zzh}
theorem AS.next(h:AS w wi rb ab sb s i lv bad om f j a seen)(b:AB w rb ab sb){c at_}(g:RS wj rb s i' lv bi c at_ om)(e:FL c at_ f' j')(d:wi.grownBy wj (some rb)):AS w wj rb ab sb s i' lv bi om f' j' a seen:=
 ⟨⟨c,at_,g,e⟩,h.len,h.ar.grown d (by have:=b.r;have:=b.a;omega),h.sr.grown d (by have:=b.r;have:=b.s;omega),gr_trans h.gr d⟩
theorem AS.below(h:AS w wi rb ab sb s i lv bad om f j a seen)(b:Bq wi wj):AS w wj rb ab sb s i lv bad om f j a seen:=by obtain⟨c,at_,d,e⟩:=h.rs;exact⟨⟨c,at_,d.below b,e⟩,h.len,h.ar.below b,h.sr.below b,gr_trans h.gr (db b)⟩
theorem AS.on(h:AS w wi rb ab sb s i lv bad om f j a seen)(e:j<=j'):AS w wi rb ab sb s i lv bad om f j' a seen:=by obtain⟨b,at_,c,d⟩:=h.rs;exact⟨⟨b,at_,c,d.on e⟩,h.len,h.ar,h.sr,h.gr⟩
end
def Pc(w:AT)(rb:Nat)(lv:Fd)(L:zza):Prop:=(L=[]/\lv=.slice none 0 0)\/∃(g cap:Nat) (AV:Nat->Nat),lv=Sq g L.length cap/\g<w.heap.size/\g≠rb/\∀k,k<L.length->w.cell? (aq g (k*5+1))=some (Sq (AV k) 12 12)/\AV k<w.heap.size/\AV k≠rb/\w.cell? (aq (AV k) 0)=some (Iq ((L.map (λd=>d.attr[0]?.getD 0))[k]?.getD 0))
def AI(s:BY)(kind:Nat)(L:zza)(R:Except Nat (Nat×fA×List Int))(bad0:Int)(more:Bool)(i:Nat)(bad:Int)(f:fA)(a:zzc)(seen:zzh):Prop:=
 (bad=bad0/\more=true/\∃fuel,s.size-i<fuel/\cX s kind L fuel i f a seen=R)\/(bad=bad0/\more=false/\mc s i f a=R)\/(0<=bad/\more=false/\R=.error bad.toNat)
theorem AI.round{s}{d}{L}{R}{b}(r:b<0){i}{f}{a}{seen}(hi:i<=s.size){k}(E:s.size-i<k)(h:cX s d L k i f a seen=R):
 AI s d L R b (gB s (bu s i b).i 59 (bu s i b).bad) (mI s (bu s i b).i 59 (bu s i b).bad) (bu s i b).bad (fa d L f a seen (bu s i b)).1 (fa d L f a seen (bu s i b)).2.1 (fa d L f a seen (bu s i b)).2.2
 /\(gB s (bu s i b).i 59 (bu s i b).bad=true->i<mI s (bu s i b).i 59 (bu s i b).bad):=by
 obtain⟨g,rfl⟩:∃g,k=g+1:=⟨k-1,dg⟩;have F:=tR s i b;have C:=Ab s i b hi;have o:=oK s d L i f a seen b r;obtain⟨q,y⟩:=af (fa d L f a seen (bu s i b));rw[y]at o⊢;clear y;obtain⟨f2,D,G⟩:=q;simp only;rcases o with⟨p,z⟩|⟨p,z⟩
 ·rw[p];have t:gB s (bu s i b).i 59 b=aR s (bu s i b).i 59:=by unfold gB;rw[if_pos r]
  have A:mI s (bu s i b).i 59 b=ao s (bu s i b).i 59:=by unfold mI;rw[if_pos r]
  rw[t,A];by_cases n:aR s (bu s i b).i 59=true
  ·have l:ao s (bu s i b).i 59=sk s (bu s i b).i+1:=by unfold ao;rw[if_pos (by grind[aR])]
   have:=fP s (bu s i b).i;have v:=dy (c:=59) dg C;rw[l]at v;refine⟨.inl ⟨rfl,n,g,?_,?_⟩,λ_=>dg⟩;all_goals grind[mQ]
  ·have l:ao s (bu s i b).i 59=sk s (bu s i b).i:=by unfold ao;rw[if_neg (by grind[aR])]
   refine⟨.inr (.inl ⟨rfl,rn,?_⟩),λe=>absurd e n⟩;grind[Cz,mP]
 ·have B:¬(bu s i b).bad<0:=dg
  have t:gB s (bu s i b).i 59 (bu s i b).bad=false:=by unfold gB;rw[if_neg B]
  rw[t];refine⟨.inr (.inr ⟨p,rfl,?_⟩),λe=>by cases e⟩;grind[oM]
