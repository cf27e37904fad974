import Derived.Test.YtehgehanbnkdiaaGreatDoorQ08
import Derived.Test.YtehgehanbnkdiaaGreatDoorQ25
import Derived.Deep.CutBlock
set_option linter.all false
set_option maxRecDepth 100000
set_option maxHeartbeats 16000000
namespace Go.Proofs.YtehgehanbnkdiaaGreatDoor
open Go.RowKit Go.Proofs.Tryz
def Mr(L:zza):Prop:=∀k,k<L.length->(-1<=(ae L k).up/\(ae L k).up<k)/\(ae L k).text.length<=4000/\(ae L k).kids.length<=L.length/\∀c∈(ae L k).kids,k<c/\c<L.length
structure Jp(W0:AT)(rb B:Nat)(s:BY)(i n:Nat)(bad at_:Int)(lv:Fd)(L:zza)(AV:Nat->Nat)(KV:Nat->Fd)(W:AT):Prop where
 j:KJ rb s lv i bad at_ W
 d:RD W B lv L AV KV
 ln:L.length=n
 le:n<=i
 cnt:at_<0->n<=100
 g:Mr L
 b:rb<B/\B<=W.heap.size
 fr:Fr B rb W0 W
def qB(W0:AT)(rb B:Nat)(s:BY)(i n:Nat)(bad at_:Int)(W:AT):Prop:=∃lv L AV KV,Jp W0 rb B s i n bad at_ lv L AV KV W
section
variable{W0 W W':AT} {rb B i n:Nat} {s:BY} {bad at_:Int} {lv:Fd} {L:zza} {AV:Nat->Nat} {KV:Nat->Fd} {x:Nat->Int->Int->Prop}
theorem Jp.on(h:Jp W0 rb B s i n bad at_ lv L AV KV W)(k:KE rb s lv i bad at_ W x W'):∃f a c,x f a c/\i<=f/\(a<0->bad<0)/\(c<0->at_<0)/\Jp W0 rb B s f n a c lv L AV KV W':=by obtain⟨f,m,a',o,⟨j,p,l,g⟩,q⟩:=k;exact⟨f,m,a',q,j,p,l,o,h.d.up (Up.grown g h.b.1),h.ln,az h.le j,λe=>h.cnt (l e),h.g,⟨h.b.1,az h.b.2 g.size⟩,h.fr.trans (Fr.grown g h.b.2)⟩
def OY(W0:AT)(rb B:Nat)(s:BY)(i n:Nat)(bad:Int)(m:Nat)(W:AT):Prop:=∃i' n' bi dY,qB W0 rb B s i' n' bi dY W/\i<=i'/\n<=n'/\(bi<0->bad<0/\m<=n')
def Q0(rb B:Nat)(s:BY)(f:Nat):Prop:=∀(up:Int) (W0 w:AT) (i n:Nat) (bad at_:Int),qB W0 rb B s i n bad at_ w->(up=-1\/∃j:Nat,up=j/\j<n)->s.size<f+i->Cw 37 #[Pq rb,Iq up] w λe w'=>e=Rw (.tuple #[])/\Hid (OY W0 rb B s i n bad (n+1) w')
def RT(rb B:Nat)(s:BY)(W0:AT)(i n:Nat)(bad:Int)(x:Nat->Int->Prop)(w:AT):Prop:=∃i' bi dY,x i' bi/\i<=i'/\(bi<0->bad<0)/\Hid (qB W0 rb B s i' n bi dY w)
theorem tu(h:qB W0 rb B s i n bad at_ W)(k:s.size<=4000)(c:Int):Cw 80 #[Pq rb,.int .u8 c] W λe w'=>e=Rw (.tuple #[])/\RT rb B s W0 i n bad (λ_ _=>True) w':=by obtain⟨_,_,_,_,h⟩:=h;refine(AU h.j k c).mono λe w' ⟨b,E⟩=>⟨b,?_⟩;obtain⟨l,a,a',x,d,f,_,g⟩:=h.on E;exact⟨l,a,a',trivial,d,f,_,_,_,_,g⟩
theorem MN(h:qB W0 rb B s i n bad at_ W)(m:s.size<=4000)(c:Int):Cw 118 #[Pq rb,.int .u8 c] W λe w'=>∃b:Bool,e=Rw (.bool b)/\RT rb B s W0 i n bad (λd a=>a=bad/\(b=true->i<d)) w':=by obtain⟨_,_,_,_,h⟩:=h;refine(J' h.j m c).mono λe w' ⟨b,f,E⟩=>⟨b,f,?_⟩;obtain⟨d,a,a',⟨x,_,y⟩,g,k,_,l⟩:=h.on E;exact⟨d,a,a',⟨x,y⟩,g,k,_,_,_,_,l⟩
theorem qB.c(h:qB W0 rb B s i n bad at_ W):W.cell? (aq rb 3)=some (Iq bad)/\rdI W rb=i/\i<=s.size:=by obtain⟨_,_,_,_,h⟩:=h;exact⟨h.j.c.2.2,h.j.rd,h.j.1⟩
theorem Qj{f:Nat}(w:Q0 rb B s f)(p:s.size<=4000)(h:qB W0 rb B s i n bad at_ W){k:Nat}(hk:k<n)(hf:s.size<f+i):Cw 79 #[Pq rb,Iq (k:Int)] W λe w'=>e=Rw (.tuple #[])/\Hid (OY W0 rb B s i n bad n w'):=by
 replace h:=qH h;replace w:=qH w;go_enter func79,ntmps79;go_wp2_with fail;refine(tu h.out p 91).mono ?_;rintro e w1 ⟨rfl,i1,b1,a1,_,l1,R,D⟩;go_wp2_with fail;refine(MN D.out p 93).mono ?_;rintro e w2 ⟨c,rfl,O,J,H,⟨rfl,_⟩,l2,_,E⟩;have G:=qH R;clear D R;cases c;rotate_right
 ·go_wp2;try simp only[Exit.inBlock,Exit.then]
  refine bodyPost_ret (results_none rfl _ _ _) rfl ?_;exact⟨rfl,O,n,J,H,E,dg,ad _,λe=>⟨G e,ad _⟩⟩
 go_wp2_with fail;go_loopw[4] (λA wr=>∃(m:Bool) (j N:Nat) (b a:Int),A=.bool m/\i<=j/\n<=N/\Hid (b<0->bad<0)/\Hid (qB W0 rb B s j N b a wr)) (λA wr=>if MO A then s.size+1-rdI wr rb else 0);case atStart=>exact⟨true,O,n,J,H,rfl,dg,ad _,G,E⟩
 case round=>
  obtain⟨m,j,N,b,a,rfl,hj,g,F,u⟩:=hrel;obtain⟨c3,d,V⟩:=u.out.c;replace d:=qH d;by_cases l:m=true/\b<0
  ·obtain⟨rfl,y⟩:=l;have T:=decide_eq_true y;go_wp2_with fail;refine(w.out (k:Int) W0 wr j N b a u (.inr ⟨k,rfl,dg⟩) dg).mono ?_;rintro e w3 ⟨rfl,C⟩;obtain⟨P,Y,K,I,o,X,m3,q⟩:=C.out;go_wp2_with fail;refine(MN o p 44).mono ?_;rintro e w4 ⟨c,rfl,Q,M,S,⟨rfl,Z⟩,l4,_,r⟩;have v:Hid (M<0->bad<0):=λe=>F.out (q e).1;have t:=qH r.out.c.2.1;have U:=r.out.c.2.2;clear C o q c3;go_wp2_with fail;go_roundw;case rel=>exact⟨c,Q,Y,M,S,rfl,dg,dg,v,r⟩
   case measure=>
    rw[t.out,d.out];cases c with
    |false=>show 0<s.size+1-j;omega
    |true=>have:=Z rfl;show s.size+1-Q<s.size+1-j;omega
  ·have z:m=false\/(m=true/\¬b<0):=by cases m<;>simp_all
   rcases z with rfl|⟨rfl,y⟩;focus skip
   rotate_right;focus have T:=decide_eq_false y
   all_goals clear l;go_wp2_with fail;refine(tu u.out p 93).mono ?_;rintro e w3 ⟨rfl,P,K,I,_,X,q,o⟩;have v:=qH q;go_wp2;go_end0;exact⟨rfl,P,N,K,I,o,dg,g,λe=>⟨F.out (v e),g⟩⟩
end
section
variable{W0 W W':AT} {rb B i n:Nat} {s:BY} {bad at_:Int} {lv UX:Fd} {L:zza} {AV:Nat->Nat} {KV:Nat->Fd} {x:Nat->Int->Int->Prop}
theorem KJ.chg(h:KJ rb s lv i bad at_ W)(m:W.heap.size<=W'.heap.size)(a:∀j,j≠2->j≠6->W'.cell? (aq rb j)=W.cell? (aq rb j))(g:W'.cell? (aq rb 2)=some UX)(b:∃d,W'.cell? (aq rb 6)=some (Iq d))(k:∀j,W'.frozen? (aq rb j)=W.frozen? (aq rb j)):KJ rb s UX i bad at_ W':=by obtain⟨l,f,c,r,e⟩:=h;obtain⟨d,b⟩:=b;exact⟨l,f,d,⟨zz006 r.lt m,(a 0 (by decide) (by decide)).trans r.c0,(a 1 (by decide) (by decide)).trans r.c1,g,(a 3 (by decide) (by decide)).trans r.c3,(a 4 (by decide) (by decide)).trans r.c4,(a 5 (by decide) (by decide)).trans r.c5,b,λj=>(k j).trans (r.fz j)⟩,e⟩
theorem KJ.far{o:Option Nat}(h:KJ rb s lv i bad at_ W)(f:W.grownBy W' o)(g:o≠some rb):KJ rb s lv i bad at_ W':=by obtain⟨l,k,b,r,e⟩:=id h;have d:=f.block rb r.lt (j_ g);have c:=λj=>aO (w:=W) (w':=W') (a:=(aq rb j)) d;exact h.chg f.size (λj _ _=>c j) ((c 2).trans r.c2) ⟨b,(c 6).trans r.c6⟩ λj=>ji d
theorem KJ.bel(h:KJ rb s lv i bad at_ W)(c:Bq W W'):KJ rb s lv i bad at_ W':=by obtain⟨l,b,a,r,e⟩:=h;exact⟨l,b,a,r.below c,e⟩
theorem KJ.setL(h:KJ rb s lv i bad at_ W)(v:Fd):KJ rb s v i bad at_ (W.setCell (aq rb 2) v):=by obtain⟨l,c,a,r,e⟩:=id h;exact h.chg At (λj b _=>b_ _ _ _ _ λq=>b (by simpa using q.symm)) (eT r.c2) ⟨a,aD (by decide) r.c6⟩ λj=>eG _ _ _ _
theorem KJ.setD(h:KJ rb s lv i bad at_ W)(d:Int):KJ rb s lv i bad at_ (W.setCell (aq rb 6) (Iq d)):=by obtain⟨l,c,a,r,e⟩:=id h;exact h.chg At (λj _ b=>b_ _ _ _ _ λq=>b (by simpa using q.symm)) (aD (by decide) r.c2) ⟨d,eT r.c6⟩ λj=>eG _ _ _ _
theorem KJ.c6(h:KJ rb s lv i bad at_ W):∃d,W.cell? (aq rb 6)=some (Iq d)/\W.frozen? (aq rb 6)=false/\W.frozen? (aq rb 2)=false/\rb<W.heap.size:=by obtain⟨l,b,a,r,e⟩:=h;exact⟨a,r.c6,r.fz 6,r.fz 2,r.lt⟩
theorem Jp.below(h:Jp W0 rb B s i n bad at_ lv L AV KV W)(b:Bq W W'):Jp W0 rb B s i n bad at_ lv L AV KV W':=by obtain⟨l,f,d,r,e⟩:=h.j;obtain⟨m,g,a',⟨rfl,rfl,rfl⟩,_,_,_,k⟩:=h.on (x:=λa b c=>a=i/\b=bad/\c=at_) ⟨i,bad,at_,⟨l,f,d,r.below b,e⟩,⟨ad _,id,id,db b⟩,rfl,rfl,rfl⟩;exact k
theorem qB.setD(h:qB W0 rb B s i n bad at_ W)(d:Int):qB W0 rb B s i n bad at_ (W.setCell (aq rb 6) (Iq d)):=by obtain⟨lv,L,AV,KV,h⟩:=h;exact⟨lv,L,AV,KV,h.j.setD d,h.d.up (Up.set _ h.b.1 _),h.ln,h.le,h.cnt,h.g,⟨h.b.1,by simpa[World.setCell]using h.b.2⟩,h.fr.trans (Fr.set _ _)⟩
theorem KB.r12(h:KB W n 12 KZ):∃a:List Int,a.length=12/\dR W n (λk=>Iq (a[k]?.getD 0)):=by
 obtain⟨F,hF⟩:=Classical.skolem.1 λk=>show∃z,k<12->W.cell? (aq n k)=some (Iq z)from by
  by_cases b:k<12;·obtain⟨_,_,c,z,rfl⟩:=h.2 k b;exact⟨z,λ_=>c⟩
  ·exact⟨0,λe=>absurd e b⟩
 exact⟨(List.range 12).map F,At,h.1,λk b=>⟨by rw[hF k b];simp[b],(h.2 k b).1⟩⟩
theorem RD.kId(h:RD W B lv L AV KV)(f:rb<B):T5 W rb lv L.length:=by
 obtain⟨j,d⟩:=h.nr.row;rcases bZ d with⟨rfl,c⟩|⟨g,b,rfl,e,_⟩;·exact⟨none,0,by rw[c],λk a=>dg⟩
 ·exact⟨_,b,rfl,λk a=>⟨g,AV k,_,rfl,dg,by have:=(h.att k a).1;omega,h.nr.cell a rfl,((h.att k a).2.2 0 dg).1⟩⟩
theorem Mr.more(h:Mr L){d:Nd}(b:d.kids=[])(f:d.text=[])(hu:d.up=-1\/∃j:Nat,d.up=j/\j<L.length):Mr (grown L d):=by
 intro k l;rw[cP]at l⊢;rcases hu with hu|⟨j,hu,g⟩
 ·have e:grown L d=L++[d]:=by unfold grown;rw[if_pos (by rw[hu];decide)]
  rw[e];by_cases q:k<L.length;·rw[bv q];have:=h k q;exact⟨this.1,this.2.1,dg,λc a=>by have:=this.2.2.2 c a;omega⟩
  ·obtain rfl:k=L.length:=dg
   rw[bJ,b,f,hu];exact⟨dg,At,At,λc a=>by simp at a⟩
 ·rw[gG L d j hu g];by_cases q:k<L.length
  ·have:=h k q;by_cases e:k=j
   ·subst e;rw[aG _ (by simp;omega),bv q];refine⟨this.1,this.2.1,by simp;omega,λc a=>?_⟩;rcases iD.1 a with a|a;·have:=this.2.2.2 c a;omega
    ·simp at a;omega
   ·rw[aB _ e,bv q];exact⟨this.1,this.2.1,dg,λc a=>by have:=this.2.2.2 c a;omega⟩
  ·obtain rfl:k=L.length:=dg
   rw[aB _ dg,bJ,b,f,hu];exact⟨dg,At,At,λc a=>by simp at a⟩
theorem Mr.text(h:Mr L){k:Nat}(b:k<L.length){t:zzf}(d:t.length<=4000):Mr (am L k t):=by
 intro q a;have c:(am L k t).length=L.length:=by unfold am;simp
 rw[c]at a⊢;have:=h q a;unfold am;by_cases e:q=k;·subst e;rw[aG _ b];exact⟨this.1,d,this.2.2⟩
 ·rw[aB _ e];exact this
theorem qB.text(h:qB W0 rb B s i n bad at_ W){k:Nat}(m:k<n):∃g a,W.cell? (aq rb 2)=some (Sq g n a)/\(∃u,W.cell? (aq g (k*5+2))=some u)/\W.frozen? (aq g (k*5+2))=false/\n<=a/\g≠rb/\∀t:BY,t.size<=4000->qB W0 rb B s i n bad at_ (W.setCell (aq g (k*5+2)) (.string t)):=by
 obtain⟨lv,L,AV,KV,h⟩:=h;have w:=h.ln;subst w;have hd:=h.d;obtain⟨g,a,rfl,l,v,r,_⟩:=hd.nr.form dg;have p:=h.b.1;refine⟨g,a,h.j.c.2.1,⟨_,hd.nr.cell m rfl⟩,hd.nr.frozen _,r,dg,λt y=>?_⟩;have f:=cH W g (k*5+2) (.string t);have o:(am L k t.data.toList).length=L.length:=by unfold am;simp
 refine⟨Sq g L.length a,am L k t.data.toList,AV,KV,h.j.far f (by simp;omega),hd.setText m t.data.toList,o,h.le,h.cnt,h.g.text m (by simpa using y),⟨p,by simpa[World.setCell]using h.b.2⟩,h.fr.trans (Fr.own f h.b.2 λq e=>by cases e;exact l)⟩
theorem OY.up{d a:Nat}{b:Int}{m:Nat}(h:OY W0 rb B s d a b m W)(hi:i<=d)(t:n<=a)(k:b<0->bad<0)(r:n<m\/n<a):OY W0 rb B s i n bad (n+1) W:=by obtain⟨l,o,g,f,j,p,q,c⟩:=h;exact⟨l,o,g,f,j,dg,dg,λe=>⟨k (c e).1,by have:=(c e).2;omega⟩⟩
theorem LH{wc w3:AT}{g r z j c:Nat}{d:Fd}{p:zza}{f:Nat->Nat}{l:Nat->Fd}{y:zze}{v:Nat}{b:zzh}(C:RD wc B (Sq g r z) p f l)(J:p.length=r)(w:B<=wc.heap.size)(E:B<=g)(A:j<r)(H:l j=.slice y b.length v)(I:(ae p j).kids=b)(o:Obj)(M:w3.ownsRow B 3 1 d (b.length+1) (gH b++[Iq (c:Int)]))(G:((wc.alloc o).drew).grownBy w3 (Value.slice y b.length v).ownBlock)(F:d.ownBlock=(Value.slice y b.length v).ownBlock\/d.ownBlock=some ((wc.alloc o).drew).heap.size):
 ∃t,RD (w3.setCell (aq g (j*5+3)) d) B (Sq g r z) (p.modify j λu=>{u with kids:=u.kids++[c]}) f t/\∀rb,Fr B rb wc (w3.setCell (aq g (j*5+3)) d):=by subst J;have m:=C.nr.kids j A;rw[H]at m;have a:Bq wc (wc.alloc o).drew:=cB ((ac wc.heap.size wc).alloc (ad _) o) 1;have h:∀rb,Fr B rb wc w3:=λrb=>(Fr.below a w).trans (Fr.own G (az w a.size) (λg e=>(m.lt g e).1));exact⟨_,(C.up (Up.below (B:=B) a)).kid (k:=j) (c:=c) (W':=w3) (kv':=d) A (by grind[gH]) rn rn,λrb=>(h rb).trans (Fr.own (cH w3 g _ _) (az w (h rb).size) (λq e=>rn))⟩
theorem F6(h:qB W0 rb B s i n bad at_ W)(g:s.size<=4000):Cw 81 #[Pq rb] W λe w'=>(∃t,e=Rw (.string t)/\t.size<=4000)/\RT rb B s W0 i n bad (λ_ _=>True) w':=by obtain⟨_,_,_,_,h⟩:=h;refine(Kb h.j g).mono λe w' ⟨b,E⟩=>⟨b,?_⟩;obtain⟨k,a,a',x,c,d,_,f⟩:=h.on E;exact⟨k,a,a',trivial,c,d,_,_,_,_,f⟩
theorem Kc:(prog.info? 176).map (λi=>(i.zero,i.size,i.bytes))=some (some (.agg #[Iq 0,.slice none 0 0,.string ⟨#[]⟩,.slice none 0 0,Iq 0]),5,80):=pt
theorem Qk{f:Nat}(hN:Q0 rb B s f)(hs:s.size<=4000):Q0 rb B s (f+1):=by
 intro up W0 w i n bad at_ h zA hf;obtain⟨lv,L,AV,KV,h⟩:=h;replace h:=qH h;replace hN:=qH hN;go_enter func37,ntmps37;go_wp2_with fail;refine(rJ h.out.j hs).mono ?_;rintro e w1 ⟨rfl,E1⟩;obtain⟨i1,b1,a1,⟨rfl,rfl⟩,l1,_,_,V⟩:=h.out.on E1;have c1:=V.j.c.1;have XL:=V.le;replace V:=qH V;clear E1 h;go_wp2_with fail;clear c1;refine(MM V.out.j hs).mono ?_;rintro e w2 ⟨⟨tx,rfl⟩,E2⟩;obtain⟨i2,b2,a2,x2,l2,p2,_,H2⟩:=V.out.on E2;replace H2:=qH H2;clear E2 V;go_wp2_with fail;refine(tq w2).1.mono ?_;rintro e w3 ⟨rfl,k3,b3⟩;have C:=qH (H2.out.below b3);replace k3:=qH k3;clear b3 H2;go_wp2_with fail;refine(ML k3.out dg tx).mono ?_;rintro e w4 ⟨⟨kd,rfl,d0,d1⟩,Yo⟩;obtain rfl:=Yo.symm;clear k3;by_cases T:kd<0;·go_wp2_with fail;refine(rH C.out.j (i1:Int)).mono ?_;rintro e w5 ⟨rfl,E5⟩;obtain⟨i5,b5,a5,⟨_,z5⟩,l5,_,_,q⟩:=C.out.on E5;have c3:=q.j.c.2.2;have z:=z5 dg;have zi:=decide_eq_true z;replace q:=qH q;clear E5 z5;go_wp2;refine bodyPost_ret (results_none rfl _ _ _) rfl ?_;exact⟨rfl,i5,n,b5,a5,⟨_,_,_,_,q⟩,dg,ad _,λe=>dg⟩
 obtain⟨kn,rfl⟩:=cU (by omega:0<=kd);have Z7:decide ((kn:Int)<0)=false:=decide_eq_false T;have c3:=C.out.j.c.2.2;by_cases hb:0<=b2;·have zi:=decide_eq_true hb;go_wp2;refine bodyPost_ret (results_none rfl _ _ _) rfl ?_;exact⟨rfl,i2,n,b2,a2,⟨_,_,_,_,C⟩,dg,ad _,λe=>dg⟩
 have zi:decide ((0:Int)<=b2)=false:=decide_eq_false hb;have hi:=x2 dg;have A:=p2 dg;obtain⟨pn,cn,rfl⟩:∃p c,lv=.slice p n c:=by have:=df C.out.d.nr.row.choose_spec;rwa[C.out.ln]at this
 have c2:=C.out.j.c.2.1;clear T x2 p2 hb;go_upto_if 36 with fail;clear c2 c3 zi;go_cut[36,39]from 37 to 38 (λ_ _ l=>Hid (∃a3,(a3<0->n<100)/\Jp W0 rb B s i2 n b2 a3 (.slice pn n cn) L AV KV l));case first=>
  by_cases hc:(100:Int)<=(n:Int);·have zg:=decide_eq_true hc;go_wp2_with fail;refine(yl C.out.j 3 i1 (by decide)).mono ?_;rintro e wn ⟨rfl,E⟩;obtain⟨i5,b5,a5,⟨rfl,rfl,z⟩,_,_,_,q⟩:=C.out.on E;replace q:=qH q;clear E;go_wp2_with fail;go_meet;exact⟨a5,λe=>dg,q⟩
  ·have zg:=decide_eq_false hc;go_wp2_with fail;go_meet;exact⟨a2,λ_=>dg,C⟩
 obtain⟨a3,n3,q⟩:=id hcut.out;obtain⟨zT,c6,_⟩:=q.j.c6;replace q:=qH q;clear hcut C;go_upto_if 44 with fail;clear c6;go_cut[44,47]from 45 to 46 (λ_ _ l=>Hid (∃a4,(a4<0->n<100)/\Jp W0 rb B s i2 n b2 a4 (.slice pn n cn) L AV KV l));case first=>
  by_cases hc:(12:Int)<=zT;·have zg:=decide_eq_true hc;go_wp2_with fail;refine(yl q.out.j 4 i1 (by decide)).mono ?_;rintro e wn ⟨rfl,E⟩;obtain⟨i5,b5,a5,⟨rfl,rfl,z⟩,_,_,_,k⟩:=q.out.on E;replace k:=qH k;clear E;go_wp2_with fail;go_meet;exact⟨a5,λe=>dg,k⟩
  ·have zg:=decide_eq_false hc;go_wp2_with fail;go_meet;exact⟨a3,n3,q⟩
 obtain⟨a4,n4,k⟩:=id hcut.out;have c2:=k.j.c.2.1;have KI:=k.d.kId k.b.1;rw[k.ln]at KI;have XA:n<=4000:=by have:=k.le;have:=k.j.1;omega
 replace KI:=qH KI;replace k:=qH k;clear hcut q;go_wp2_with fail;clear c2;refine(N4 k.out.j hs (zz006 k.out.b.1 k.out.b.2) (kn:Int) KI.out XA).mono ?_;rintro e w7 ⟨⟨ab,rfl,zq,k7⟩,E7⟩;obtain⟨P,M,R,_,l7,p7,q7,m⟩:=k.out.on E7;obtain⟨a,Xo,O⟩:=k7.r12;have Z:Hid ((∀j,j<L.length->(KV j).ownBlock≠some ab)/\(Value.slice pn n cn).ownBlock≠some ab):=by obtain⟨xs,hx⟩:=k.out.d.nr.row;exact⟨λj hj e=>by have:=((k.out.d.nr.kids j hj).lt ab e).2;omega,λe=>by have:=(hx.lt ab e).2;omega⟩
 have X:Hid (∀l lv AV KV,KJ rb s lv P M R l->RD l B lv (grown L ⟨kn,a,[],[],up⟩) AV KV->Fr B rb W0 l->B<=l.heap.size->qB W0 rb B s P (n+1) M R l):=λl lv AV KV h1 h2 h3 h4=>⟨lv,_,AV,KV,h1,h2,by rw[cP,m.ln],dg,λe=>by have:=n4 (q7 e);omega,m.g.more rfl rfl (by rw[m.ln];exact zA),⟨m.b.1,h4⟩,h3⟩;have zG:Hid (B<=ab):=az k.out.b.2 zq;obtain⟨i0,zv,zB,zC,zD⟩:=info_parts Kc;obtain⟨xs,zk⟩:=m.d.nr.row;have o:=qH m.ln;have zI:=qH m.g;have J:=qH m.b;have HX:Hid (w7.ownsRow B 176 5 (.slice pn n cn) n xs):=by rw[<-m.ln];rw[m.ln];rw[m.ln]at zk;exact zk
 have c2:=m.j.c.2.1;have UH:=m.j.c6.choose_spec.2.2.2;replace m:=qH m;replace O:=qH O;clear zk zq k7 E7 k KI n4 q7;go_upto_region 13 with fail;go_cut[8]from 56 to 68 (λv l=>v=Sq ab 12 12/\∃Q I,Hid (∃U ze,KJ rb s (.slice Q (n+1) I) P M R l/\RD l B (.slice Q (n+1) I) (L++[⟨kn,a,[],[],up⟩]) U ze/\Fr B rb W0 l/\B<=l.heap.size));case first=>
  go_wp2_with(at_builtin;refine wpList_append_own_at _ rfl _ _ 51 rfl B 176 i0 _ 5 80 underlying51 zv zB zC zD rfl (by decide) _ _ _ rfl (HX.out.alloc _) _ 1 1 (jB ⟨kn,a,[],[],up⟩ (Rk ab) (.slice none 0 0)) rfl rfl (gD _ _ _ _ rfl) (by intro u hu;unfold jB Rk at hu;simp at hu;rcases hu with rfl|rfl|rfl|rfl|rfl<;>rfl) (by unfold maxLen;omega) dg (by rw[ai];have:=J.out.2;omega) ?_);intro v1 w8 o8 g8 _ S;obtain⟨Q,I,Yj⟩:=df o8;subst Yj;have bA:=(ac w7.heap.size w7).alloc (ad _) (.cells #[Iq (kn:Int),Sq ab 12 12,.string ⟨#[]⟩,.slice none 0 0,Iq up] 176);have r:=m.out.below bA;have zx:(Value.slice pn n cn).ownBlock≠some rb:=λe=>by have:=(HX.out.lt rb e).1;have:=J.out.1;omega
  have J8:=qH (r.j.far g8 zx);have D8:=qH (RD.app (nv':=.slice Q (n+1) I) (d:=⟨kn,a,[],[],up⟩) r.d (by rw[o.out];exact HX.out.alloc _) (by rw[o.out];exact o8) g8 (by rw[ai];exact S) Xo rfl zG (O.out.below bA) Z.out.1 Z.out.2);have F8:Hid (Fr B rb W0 w8/\B<=w8.heap.size):=⟨r.fr.trans (Fr.own g8 r.b.2 λg e=>(HX.out.lt g e).1),az r.b.2 g8.size⟩;have k2:=J8.out.c.2.1;obtain⟨_,_,_,kf,_⟩:=J8.out.c6;obtain⟨w9,Yq⟩:=af (w8.setCell (aq rb 2) (.slice Q (n+1) I));have HQ:Hid (∃U ze,KJ rb s (.slice Q (n+1) I) P M R w9/\RD w9 B (.slice Q (n+1) I) (L++[⟨kn,a,[],[],up⟩]) U ze/\Fr B rb W0 w9/\B<=w9.heap.size):=by rw[<-Yq];exact⟨_,_,J8.out.setL _,D8.out.up (Up.set _ J.out.1 _),F8.out.1.trans (Fr.set _ _),by simpa[World.setCell]using F8.out.2⟩
  clear o8 g8 S bA r J8 D8 F8 zx;go_wp2_with fail;go_meet;exact⟨rfl,Q,I,HQ⟩
 obtain⟨rfl,Q,I,HM⟩:=hcut;clear HX c2 zv zB zC zD m O Z;go_upto_if 70 with fail;go_cut[70,88]from 71 to 87 (λ_ _ l=>Hid (qB W0 rb B s P (n+1) M R l));case first=>
  obtain⟨zl,zo,r8,d8,f8,H⟩:=HM.out;rcases zA with rfl|⟨j,rfl,hj⟩;·have HO:Hid (qB W0 rb B s P (n+1) M R wc):=X.out wc _ zl zo r8 (by unfold grown;rw[if_pos (show(-1:Int)<0 by decide)];exact d8) f8 H;clear r8 d8 f8 H;go_wp2_with fail;go_meet;exact HO
  ·obtain⟨L1,D⟩:=af (L++[(⟨kn,a,[],[],(j:Int)⟩:Nd)]);have zJ:Hid (grown L ⟨kn,a,[],[],(j:Int)⟩=L1.modify j λu=>{u with kids:=u.kids++[L.length]}):=by show _=_;rw[<-D];exact gG L _ j rfl (by rw[o.out];exact hj)
   have zj:L1.length=n+1:=by rw[<-D];simp[o.out]
   have zZ:(ae L1 j).kids.length<=4000:=by rw[<-D,bv (by rw[o.out];exact hj)];have:=(zI.out j (by rw[o.out];exact hj)).2.2.1;rw[o.out]at this;omega
   rw[D]at d8;clear D;obtain⟨g,zS,hv,zV,zt,_,_⟩:=d8.nr.form dg;simp only[zj,ss,true_and]at hv;obtain⟨rfl,rfl⟩:=hv;have zw:j<L1.length:=dg;have G:=d8.nr.kids j zw;obtain⟨pk,ck,F⟩:=df G;obtain⟨ks,N⟩:=af ((ae L1 j).kids);rw[F,N]at G;rw[N]at F zZ;have zn:=qH G;have zU:wc.cell? (aq g (j*5+3))=some (.slice pk ks.length ck):=by rw[<-F];exact d8.nr.cells g rfl j zw 3 (zo j) rfl
   have zm:Hid (some g≠(Value.slice pk ks.length ck).ownBlock):=by
    obtain⟨ys,Yx⟩:=d8.nr.row;rcases dB (v':=Sq g (n+1) I) G Yx (by decide)with e|e;·show some g≠_;rw[e];simp
    ·exact λe2=>e e2.symm
   have _w:=J.out.1;have zu:g≠rb:=dg;have f14:wc.frozen? (aq g (j*5+3))=false:=d8.nr.frz rfl (j*5+3);have c2:=r8.c.2.1;have Xh:(j:Int)<((n+1:Nat):Int):=dg;have Uq:(j:Int)<(n:Int)+1:=dg;have X0:=r8.c6.choose_spec.2.2.2;have XZ:Hid ((Value.slice pk ks.length ck).ownBlock≠some rb):=λe=>by have:=(zn.out.lt rb e).1;omega
   have D8:=qH d8;have R8:=qH r8;have F8:=qH f8;have zK:=qH F;have zL:=qH N;have zM:=qH zj;obtain⟨i1,zY,Yw,UR,US⟩:=info_parts wY;clear G d8 F N r8 f8 zj HM;go_wp2_with fail;go_region_law(refine fQ rfl (.tmp 83) (.tmp 85) 26 rfl B 3 i1 (Iq 0) 1 8 underlying26 zY Yw UR US rfl (by decide) (.slice pk ks.length ck) ks.length (gH ks) (by simp[Act.eval]) (qt (w:=wc.drew) zn _) _ 1 1 [Iq (n:Int)] (by simp[Act.eval]) rfl (gD _ _ _ _ rfl) (by intro u hu;simp at hu;subst hu;rfl) (by unfold maxLen;omega) dg (by simp;omega) ?_;intro v' w3 y hg zr;obtain⟨YW,zR,Yi⟩:=df y;subst Yi;have Y:=qH (KJ.far (R8.out.bel (cB ((ac _ _).alloc (ad _) _) 1)) hg XZ);have k3:=Y.out.c.2.1;have zh:=(hg.block g (zz006 zt At) zm).trans (heap_alloc_old _ _ zt);have YL:=(aO zh).trans zU;have zE:=(ji zh).trans f14);all_goals
    have HO:Hid (qB W0 rb B s P (n+1) M R (w3.setCell (aq g (j*5+3)) (.slice YW (ks.length+1) zR))):=by obtain⟨zO,z2,z3⟩:=LH (c:=n) D8.out zM.out H zV dg zK.out zL.out _ y hg zr;exact X.out _ _ zl zO (Y.out.far (cH w3 g _ _) (by simpa using zu)) (by rw[zJ.out,o.out];exact z2) (F8.out.trans (z3 rb)) (az H (z3 rb).size)
    clear Y hg zr y k3 zh YL zE;go_wp2_with fail;go_meet;exact HO
 have H9:=hcut;clear hcut HM X;have HD:=qH H9.out.setD;obtain⟨Wv,c6,z6⟩:∃d,wc.cell? (aq rb 6)=some (Iq d)/\wc.frozen? (aq rb 6)=false:=by obtain⟨_,_,_,_,h⟩:=H9.out;obtain⟨d,h1,h2,_⟩:=h.j.c6;exact⟨d,h1,h2⟩
 have P7:Hid (M<0->b1<0):=λ_=>A;have zX:s.size<f+P:=dg;clear H9;go_upto_block 0 with fail;clear c6 z6;go_cut[9]from 97 to 125 (λ_ l=>Hid (OY W0 rb B s i n b1 (n+1) l));case first=>
  rcases(by omega:kn=0\/kn=1\/kn=2\/kn=3\/kn=4\/kn=5\/kn=6)with rfl|rfl|rfl|rfl|rfl|rfl|rfl;iterate 3 ·go_wp2_with fail;refine(Qj hN.out hs (HD.out _) (qr n) zX).mono ?_;rintro e we ⟨rfl,K⟩;go_wp2_with fail;go_meet;exact K.out.up dg dg P7 (.inr dg)
  iterate 2 ·go_wp2_with fail;refine(tu (HD.out _) hs 91).mono ?_;rintro e we ⟨rfl,i8,H,a8,_,l8,p8,r⟩;go_wp2_with fail;refine(hN.out (n:Int) W0 we i8 (n+1) H a8 r (.inr ⟨n,rfl,dg⟩) dg).mono ?_;rintro e wg ⟨rfl,K⟩;obtain⟨i9,n9,b9,a9,H9,l9,m9,p9⟩:=K.out;go_wp2_with fail;refine(tu H9 hs 93).mono ?_;rintro e wh ⟨rfl,YA,zQ,zP,_,l10,_,zF⟩;clear K H9 p9 p8;go_wp2_with fail;go_meet;exact⟨YA,n9,zQ,zP,zF,dg,dg,λ_=>⟨A,dg⟩⟩
  ·go_wp2_with fail;refine(F6 (HD.out _) hs).mono ?_;rintro e we ⟨⟨t,rfl,ht⟩,i8,H,a8,_,l8,p8,r⟩;obtain⟨gb,zS,c2,⟨u2,d2⟩,z2,Ss,zu,zy⟩:=r.out.text (qr n);have zN:=qH (zy t ht);have Ro:(n:Int)<((n+1:Nat):Int):=dg
   have Xs:(n:Int)<(n:Int)+1:=dg;clear r p8 zy;go_wp2_with fail;go_meet;exact⟨i8,n+1,H,a8,zN,dg,dg,λ_=>⟨A,dg⟩⟩
  ·go_wp2_with fail;go_meet;exact⟨P,n+1,M,R,HD.out _,dg,dg,λ_=>⟨A,dg⟩⟩
 obtain⟨i8,n8,H,a8,r,l8,m8,p8⟩:=id hcut.out;obtain⟨Wu,c6,z6⟩:∃d,wc.cell? (aq rb 6)=some (Iq d)/\wc.frozen? (aq rb 6)=false:=by obtain⟨_,_,_,_,h⟩:=r;obtain⟨d,h1,h2,_⟩:=h.j.c6;exact⟨d,h1,h2⟩
 have P8:=qH p8;have zH:=qH r.setD;clear hcut r p8 HD;go_wp2;go_end0;exact⟨rfl,i8,n8,H,a8,zH.out _,l8,m8,P8⟩
end
