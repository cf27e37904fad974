import Derived.Test.YtehgehanbnkdiaaGreatDoorQ31
import Derived.Test.YtehgehanbnkdiaaGreatDoorQ36
import Derived.Laws.CopyOwn
import Derived.Test.YtehgehanbnkdiaaGreatDoorQ33
set_option linter.all false
set_option maxRecDepth 100000
set_option maxHeartbeats 16000000
namespace Go.Proofs.YtehgehanbnkdiaaGreatDoor
open Go.RowKit Go.Sort Go.Proofs.Tryz
def iu{w w':AT}(h:Bq w w')(e:TypeId)(b:Option Nat):Lib.OthersKept e b w w':=λk o c _ _=>(h.block k (aj.1 c).1).trans c
section
variable{Q Q':AT} {B b:Nat} {p v:Fd} {W a f g d:Int} {l:zzf}
def dj.up(h:dj Q B b p v W a f g d l)(i:Bq Q Q'):dj Q' B b p v W a f g d l:=by
 refine⟨h.low,h.hp,(i.block b h.lt).trans h.at_,⟨h.own.1,?_⟩,h.ne⟩;rcases h.own.2 with q|⟨c,cap,e,k,n,m,j,r⟩;.exact .inl q
 .exact .inr ⟨c,cap,e,k,n,m,(i.block c (aj.1 j).1).trans j,r⟩
def dj.at3(h:dj Q B b p v W a f g d l)(a':Int):dj (Q.setCell (aq b 3) (.int .i64 a')) B b p v W a' f g d l:=⟨h.low,h.hp,(h.set 3 _).1,(h.set 3 _).2,h.ne⟩
def dj.at4(h:dj Q B b p v W a f g d l)(u:Int):dj (Q.setCell (aq b 4) (.int .i64 u)) B b p v W a u g d l:=⟨h.low,h.hp,(h.set 4 _).1,(h.set 4 _).2,h.ne⟩
def dj.at5(h:dj Q B b p v W a f g d l)(u:Int):dj (Q.setCell (aq b 5) (.int .i64 u)) B b p v W a f u d l:=⟨h.low,h.hp,(h.set 5 _).1,(h.set 5 _).2,h.ne⟩
def dj.at6(h:dj Q B b p v W a f g d l)(u:Int):dj (Q.setCell (aq b 6) (.int .i64 u)) B b p v W a f g u l:=⟨h.low,h.hp,(h.set 6 _).1,(h.set 6 _).2,h.ne⟩
end
def bZ(w w':AT)(B b:Nat)(W a f g d:Int)(l:zzf):Prop:=∃p' v',dj w' B b p' v' W a f g d l/\Below B w w'/\Lib.OthersKept 5 (some b) w w'
def bZ.start{w e i:AT}{B b:Nat}{W a f g d:Int}{l:zzf}(c:Gr w e)(n:B<=w.heap.size)(h:bZ e i B b W a f g d l):bZ w i B b W a f g d l:=by obtain⟨o,q,j,k,m⟩:=h;exact⟨o,q,j,(c.below.mono n).trans k,(iu c.below _ _).trans m⟩
def bZ.block{w m:AT}{B b:Nat}{W a f g d:Int}{l:zzf}(h:bZ w m B b W a f g d l){k:Nat}{i:Array Fd}{T:TypeId}{j:Nat×Nat}(r:w.heap[k]?=some (.cells i T j))(q:k≠b)(o:T≠5):m.heap[k]?=some (.cells i T j):=by obtain⟨u,x,s,t,n⟩:=h;refine n k _ r (λe=>q (ic e)) λc z e=>o ?_;injection e
def bZ.drew{w c:AT}{B b:Nat}{W a f g d:Int}{l:zzf}(h:bZ w c B b W a f g d l):bZ w c.drew B b W a f g d l:=by obtain⟨k,m,e,i,j⟩:=h;exact⟨k,m,e.up ((Gr.refl c).drew.below),jD i,j.drew⟩
def bZ.at3{w e:AT}{B b:Nat}{W a f g d:Int}{l:zzf}(h:bZ w e B b W a f g d l)(a':Int):bZ w (e.setCell (aq b 3) (.int .i64 a')) B b W a' f g d l:=by obtain⟨k,m,c,i,j⟩:=h;exact⟨k,m,c.at3 a',i.setCell (p:=(aq b 3)) c.low _,j.setCell (aq b 3) rfl _⟩
def bZ.sty{w j:AT}{B b:Nat}{W a f g d:Int}{l:zzf}(h:bZ w j B b W a f g d l)(e i d':Int):bZ w (((j.setCell (aq b 4) (.int .i64 e)).setCell (aq b 5) (.int .i64 i)).setCell (aq b 6) (.int .i64 d')) B b W a e i d' l:=by obtain⟨n,o,c,k,m⟩:=h;exact⟨n,o,((c.at4 e).at5 i).at6 d',((k.setCell (p:=(aq b 4)) c.low _).setCell (p:=(aq b 5)) c.low _).setCell (p:=(aq b 6)) c.low _,((m.setCell (aq b 4) rfl _).setCell (aq b 5) rfl _).setCell (aq b 6) rfl _⟩
def sa(w:AT)(o:Obj):(w.alloc o).heap[w.heap.size]?=some o:=by show(w.heap.push o)[w.heap.size]?=some o;exact C7
def Eo(B b:Nat)(p v:Fd)(W a f g d:Int)(l:zzf)(t:BY)(f2 s d2 q:Int)(w:AT)(h:dj w B b p v W a f g d l)(i:l.length+t.size<=140737488355328)(n:B<=w.heap.size)(N:-1<=a/\a<=1000000):
 Calls Tryz.prog 111 #[.pointer (some (aq b 0)),.agg #[.string t,.int .i64 f2,.int .i64 s,.int .i64 d2,.int .i64 q]] w λe w'=>e=Rw (.tuple #[])/\Hid (bZ w w' B b W (a+oi q) f g d (l++t.data.toList)):=by
 have I:b<w.heap.size:=h.lt;obtain⟨S,hS⟩:∃z,w.heap.size=z:=⟨_,rfl⟩;obtain⟨c,o⟩:∃z,w.alloc (.cells #[.string t,.int .i64 f2,.int .i64 s,.int .i64 d2,.int .i64 q] 46)=z:=⟨_,rfl⟩;have y:Hid (Gr w c):=by rw[<-o];exact(Gr.refl w).alloc _
 have F:Hid (c.heap[S]?=some (.cells #[.string t,.int .i64 f2,.int .i64 s,.int .i64 d2,.int .i64 q] 46 (0,0))):=by rw[<-o,<-hS];exact sa w _
 have P:c.cell? (aq S 0)=some (.string t):=by rw[Lib.cell_of_heap F.out];rfl
 have D:Hid (dj c B b p v W a f g d l):=h.up y.out.below;have j:B<=c.heap.size:=aA n y.out.size;have H:Hid (∀w',w'=c\/w'=c.drew->Calls Tryz.prog 67 #[.pointer (some (aq b 0)),.string t] w' λe x=>e=Rw (.tuple #[.int .i64 t.size,.nilIface])/\Hid (bZ c x B b W a f g d (l++t.data.toList))):=by
  rintro w' (rfl|rfl);.exact(eF B b p v W a f g d l t w' D.out i j).mono λe x ⟨C,A⟩=>⟨C,_,A⟩
  .exact(eF B b p v W a f g d l t c.drew (D.out.up ((Gr.refl c).drew.below)) i j).mono λe x ⟨C,A⟩=>⟨C,bZ.start ((Gr.refl c).drew) j ⟨_,A⟩⟩
 have G:Hid (∀w,Calls Tryz.prog 180 #[.int .i64 q] w λe w'=>e=Rw (.int .i64 (oi q))/\w'=w):=km q;have O:0<=oi q/\oi q<=2:=by unfold oi;split;omega;split<;>omega
 have J:IntKind.i64.wrap (a+oi q)=a+oi q:=IntWalk.i64_in _ dg;clear h;go_enter Tryz.func111,Tryz.ntmps111;go_wp2_with fail;go_region_with(go_at_call 67;refine ag (H.out _ (by first|exact .inl rfl|exact .inr rfl)) ?_;rintro L u ⟨rfl,r⟩);all_goals
  have E:u.heap[S]?=some (.cells #[.string t,.int .i64 f2,.int .i64 s,.int .i64 d2,.int .i64 q] 46 (0,0)):=r.out.block F.out dg (by decide);have R:u.cell? (aq S 4)=some (.int .i64 q):=by rw[Lib.cell_of_heap E];rfl
  have c3:u.cell? (aq b 3)=some (.int .i64 a):=by obtain⟨K,v1,m,_⟩:=r.out;exact m.cell (k:=3) rfl
  have T:u.frozen? (aq b 3)=false:=by obtain⟨K,v1,m,_⟩:=r.out;exact m.fz 3
  clear E;go_wp2_with fail;go_region_with(go_at_call 180;refine ag (G.out _) ?_;rintro M x ⟨rfl,rfl⟩);all_goals go_wp2_with fail;go_end0;have X:=(r.out.start y.out n).at3 (a+oi q);exact⟨rfl,by first|exact X|exact X.drew|exact X.drew.drew|exact X.drew.drew.drew⟩
def Tf(n:Nat)(h:n<1000):(Lib.decDigits n).length<=3:=by
 rw[Lib.decDigits];split;.simp
 .rw[Lib.decDigits];split;.simp
  .rw[Lib.decDigits,dif_pos dg];simp
def Sd(w:AT)(B b:Nat)(V a f g d:Int)(N:Nat)(w':AT):Prop:=∃l,l.length<=N/\bZ w w' B b V a f g d l
def Ub(B b:Nat)(p v:Fd)(V:Nat)(a f g d:Int)(l:zzf)(i:Nat)(w:AT)(h:dj w B b p v (V:Int) a f g d l)(A:l.length<=1099511627776)(o:B<=w.heap.size)(hV:1<=V/\V<=400)(hi:i<400*V)(P:gC w)(zh:11<B):
 Cw 109 #[Pq b,Iq (i:Int)] w λe w'=>e=Rw (.tuple #[])/\Sd w B b V i f g d (l.length+10) w':=by
 obtain⟨X,M⟩:=af (i %V);obtain⟨Y,N⟩:=af (i/V);have x:X<400:=by rw[<-M];have:=Cx i (show 0<V by omega);omega
 have y:Y<400:=by rw[<-N];exact Cy (by rw[eJ];exact hi)
 have c2:w.cell? (aq b 2)=some (Iq (V:Int)):=h.cell (k:=2) rfl;have c3:w.cell? (aq b 3)=some (Iq a):=h.cell (k:=3) rfl;have J:=qH h;have IT:∀m:Nat,m<400->∃D:List UInt8,D.length<=3/\Hid (∀z w',z=(m:Int)+1->Gr w w'->Cw 185 #[Iq z] w' λe C=>e=Rw (.string ⟨D.toArray⟩)/\Hid (Gr w C)):=λm hm=>⟨_,Tf (m+1) dg,λz w' hz j=>by subst hz;exact(G9 (m+1) dg w' (P.below (B:=w.heap.size) j.below dg)).mono λe C q=>⟨q.1,j.trans q.2⟩⟩;obtain⟨n,r,Z⟩:=IT Y y;obtain⟨H,s,I2⟩:=IT X x;have j1:¬9223372036854775807<2+n.length:=dg;have j2:¬9223372036854775807<2+n.length+1:=dg;have j3:¬9223372036854775807<2+n.length+1+H.length:=dg;have j4:¬9223372036854775807<2+n.length+1+H.length+1:=dg;have I:Hid (n.length<=3/\H.length<=3):=⟨r,s⟩;have PW:Hid (∀(t:BY) w',Gr w w'->t.size<=10->Cw 67 #[Pq b,.string t] w' λe C=>e=Rw (.tuple #[Iq t.size,.nilIface])/\Hid (Sd w B b V a f g d (l.length+10) C)):=λt w' j P=>(eF B b p v (V:Int) a f g d l t w' (J.up j.below) dg (aA o j.size)).mono λe C ⟨he,h1⟩=>⟨he,_,by rw[aN];have:t.data.toList.length=t.size:=rfl;omega,bZ.start j o ⟨_,h1⟩⟩;have ze:¬V=0:=dg;have zg:¬(V:Int)=0:=dg;have hQ:IntKind.i64.wrap (IntKind.i64.wrap ((i:Int)/(V:Int))+1)=(Y:Int)+1:=by rw[show(i:Int)/(V:Int)=(Y:Int)by rw[<-N];exact(Int.natCast_ediv i V).symm,IntWalk.i64_in (Y:Int) dg,IntWalk.i64_in _ dg]
 have hR:IntKind.i64.wrap ((i:Int).tmod (V:Int)+1)=(X:Int)+1:=by rw[Od (Int.natCast_nonneg i),show(i:Int) %(V:Int)=(X:Int)by rw[<-M];exact(Int.natCast_emod i V).symm,IntWalk.i64_in _ dg]
 have R:Hid (i=a->Sd w B b V i f g d (l.length+10) w):=λe=>by rw[e];exact⟨l,dg,p,v,h,Ok,Lib.OthersKept.refl _ _ _⟩
 clear h P A IT r s M N hV hi x y;by_cases G:(i:Int)=a;focus have E:=qH (R G);have T:((i:Int)!=a)=false:=by simpa using G
 rotate_left;focus have T:((i:Int)!=a)=true:=by simpa using G
 rotate_left;all_goals
  clear G R;go_enter func109,ntmps109;go_wp2_with fail;all_goals try(go_end0;exact⟨rfl,E⟩)
  all_goals
   go_region_held(λu=>u.cell? (aq b 2)=some (Iq (V:Int))) (go_keep) (first
    |(go_at_call 185;(first
     |(with_reducible refine ag (Z.out _ _ (by with_reducible rfl) (by first|exact Gr.refl _|exact(Gr.refl _).drew)) ?_;rintro T u1 ⟨rfl,K⟩;have c2:u1.cell? (aq b 2)=some (Iq (V:Int)):=(J.out.up K.out.below).cell (k:=2) rfl)
     |(with_reducible refine ag (I2.out _ _ (by with_reducible rfl) (by first|exact K.out|exact K.out.drew)) ?_;rintro e2 u2 ⟨rfl,L⟩;have c2:u2.cell? (aq b 2)=some (Iq (V:Int)):=(J.out.up L.out.below).cell (k:=2) rfl)))
    |(go_at_call 67;refine ag (PW.out _ _ (by first|exact L.out|exact L.out.drew) (by have:=I.out;simp[kG];simp[ByteArray.size];omega)) ?_;rintro e3 u3 ⟨rfl,S⟩;have c2:u3.cell? (aq b 2)=some (Iq (V:Int)):=(by obtain⟨_,_,U,v1,c,_⟩:=S.out;exact c.cell (k:=2) rfl)));all_goals
    obtain⟨l3,O,F⟩:=S;have z3:u3.frozen? (aq b 3)=false:=by obtain⟨U,v1,c,_⟩:=F;exact c.fz 3
    have k3:u3.cell? (aq b 3)=some (Iq a):=by obtain⟨U,v1,c,_⟩:=F;exact c.cell (k:=3) rfl
    have X:=qH (F.at3 (i:Int));clear F;go_wp2_with fail;go_end0;exact⟨rfl,_,O,by first|exact X|exact X.drew|exact X.drew.drew⟩
def UX(w:AT)(B b:Nat)(V a f g d f2 g2 d2:Int)(l:zzf)(w':AT):Prop:=∃t:List UInt8,t.length<=15/\(f=f2/\g=g2/\d=d2->t=[])/\bZ w w' B b V a f2 g2 d2 (l++t)
def T_(B b:Nat)(p v:Fd)(V a f g d:Int)(l:zzf)(f2 i d2:Int)(w:AT)(h:dj w B b p v V a f g d l)(J:l.length<=1099511627776)(n:B<=w.heap.size):
 Cw 110 #[Pq b,.agg #[Iq f2,Iq i,Iq d2]] w λe w'=>e=Rw (.tuple #[])/\UX w B b V a f g d f2 i d2 l w':=by
 have R:=h.lt;obtain⟨S,hS⟩:=af w.heap.size;obtain⟨j,o⟩:=af (w.alloc (.cells #[Iq f2,Iq i,Iq d2] 44));have C:Hid (Gr w j):=by rw[<-o];exact(Gr.refl w).alloc _
 have z:Hid (R3 44 j S f2 i d2):=by rw[<-o,<-hS];exact R3.new w _ _ _ _
 have n0:=z.c0;have n1:=z.c1;have n2:=z.c2;have x:=qH (h.up C.below);have c4:j.cell? (aq b 4)=some (Iq f):=x.cell (k:=4) rfl;have c5:j.cell? (aq b 5)=some (Iq g):=x.cell (k:=5) rfl;have U:j.cell? (aq b 6)=some (Iq d):=x.cell (k:=6) rfl;have m:=aA n C.size;have L:Hid (∀u,Gr j u->Cw 186 #[.agg #[Iq f,Iq g,Iq d],.agg #[Iq f2,Iq i,Iq d2]] u λe s=>(∃t:BY,e=Rw (.string t)/\Hid (t.size<=15/\(f=f2/\g=i/\d=d2->t.size=0)))/\Hid (Bq j s)):=λu hu=>(OX f g d f2 i d2 u).mono λe s ⟨t,E,F,G,O⟩=>⟨⟨t,E,F,G⟩,hu.below.trans (O.mono hu.size)⟩;have M:Hid (∀(t:BY) u,t.size<=15/\(f=f2/\g=i/\d=d2->t.size=0)->Bq j u->Cw 67 #[Pq b,.string t] u λe s=>e=Rw (.tuple #[Iq t.size,.nilIface])/\∃r:List UInt8,Hid (r.length<=15/\(f=f2/\g=i/\d=d2->r=[]))/\Hid (bZ j s B b V a f g d (l++r))):=λt u K hu=>(eF B b p v V a f g d l t u (x.up hu) dg (aA m hu.size)).mono λe s ⟨P,T,E,F,G⟩=>⟨P,t.data.toList,⟨K.1,λq=>kH (K.2 q)⟩,_,T,E,(hu.mono m).trans F,(iu hu _ _).trans G⟩;clear h;go_enter func110,ntmps110;go_wp2_with fail;go_region_with(first|(go_at_call 186;refine ag (L.out _ (by first|exact Gr.refl _|exact(Gr.refl _).drew|exact((Gr.refl _).drew).drew)) ?_;rintro Y w1 ⟨⟨t1,rfl,N⟩,H⟩)|(go_at_call 67;refine ag (M.out _ _ N.out (by first|exact H.out|exact H.out.drew)) ?_;rintro Z A ⟨rfl,r,I,D⟩));all_goals have y:R3 44 A S f2 i d2:=D.out.block z.out dg (by decide);have o0:=y.c0;have o1:=y.c1;have o2:=y.c2;obtain⟨p1,v1,c,_⟩:=id D.out;have e4:A.cell? (aq b 4)=some (Iq f):=c.cell (k:=4) rfl;have e5:A.cell? (aq b 5)=some (Iq g):=c.cell (k:=5) rfl;have e6:A.cell? (aq b 6)=some (Iq d):=c.cell (k:=6) rfl;have z4:=c.fz 4;have z5:=c.fz 5;have z6:=c.fz 6;have X:=qH ((D.out.start C.out n).sty f2 i d2);clear y c;go_wp2_with fail;go_end0;exact⟨rfl,r,I.out.1,I.out.2,by first|exact X|exact X.drew|exact X.drew.drew|exact X.drew.drew.drew⟩
def CB.pen{w c:AT}{B b:Nat}{W a f g d:Int}{l:zzf}{q off n:Nat}{C:Nat->Ce}(h:CB w q off n C)(j:bZ w c B b W a f g d l)(e:q≠b):CB c q off n C:=h.kept λk m i=>j.block i e (by decide)
def CB.gr{w e:AT}{q off n:Nat}{C:Nat->Ce}(h:CB w q off n C)(i:Gr w e):CB e q off n C:=h.kept λj k c=>(i.below.block _ (aj.1 c).1).trans c
def bZ.next{w k m:AT}{B b:Nat}{W c a f g d a' e i d':Int}{l j:zzf}(h:bZ w k B b W a f g d l)(n:bZ k m B b c a' e i d' j):bZ w m B b c a' e i d' j:=by obtain⟨_,_,_,o,q⟩:=h;obtain⟨u,x,r,s,t⟩:=n;exact⟨u,x,r,o.trans s,q.trans t⟩
def bZ.low{w e i:AT}{B b:Nat}{W a f g d:Int}{l:zzf}(h:bZ w e B b W a f g d l)(c:Bq e i)(n:B<=e.heap.size):bZ w i B b W a f g d l:=by obtain⟨o,q,j,k,m⟩:=h;exact⟨o,q,j.up c,k.trans (c.mono n),m.trans (iu c _ _)⟩
def bZ.bel{w c:AT}{B b:Nat}{W a f g d:Int}{l:zzf}(h:bZ w c B b W a f g d l):Below B w c:=by obtain⟨_,_,_,h,_⟩:=h;exact h
def Sh(w:AT)(B b:Nat)(V:Int)(l:zzf)(c:Prop)(N:Nat)(w':AT):Prop:=∃a f g d l',bZ w w' B b V a f g d l'/\l'.length<=N/\(c->l'=l/\f=0/\g=0/\d=0)
def QD{t f g b q t1 f1 g1 b1 q1}:(⟨t,f,g,b,q⟩:Ce)=⟨t1,f1,g1,b1,q1⟩\/((t.toList==t1.toList)=false\/t=t1/\((f==f1)=false\/f=f1/\((g==g1)=false\/g=g1/\((b==b1)=false\/b=b1/\(q==q1)=false)))):=by
 by_cases c:t=t1;.subst c;simp only[Ce.mk.injEq];grind
 .exact .inr (.inl (tu c))
def Ud(B b:Nat)(p v:Fd)(V n:Nat)(l:zzf)(gO zg gN ze:Nat)(x m:Nat->Ce)(w:AT)(h:dj w B b p v (V:Int) (-1) 0 0 0 l)(zj:l.length<=10)(K:B<=w.heap.size)(hV:1<=V/\V<=400)(zk:n<=400*V)(zl:∀i,i<n->(m i).t.size<=20)(hO:CB w gO 0 n x)(hN:CB w gN 0 n m)(zr:gO≠b)(zq:gN≠b)(ht:gC w)(zi:11<B):
 Cw 69 #[Pq b,Sq gO n zg,Sq gN n ze] w λe w'=>e=Rw (.tuple #[])/\Sh w B b V l (∀i,i<n->m i=x i) 8000000 w':=by
 have zv:prog.follows .mixedOrders=true:=pt;have zA:n<=160000:=dg;have H0:Hid (Sh w B b V l (∀i,i<n->m i=x i) 10 w):=⟨-1,0,0,0,l,⟨p,v,h,Ok,Lib.OthersKept.refl _ _ _⟩,zj,λ_=>⟨rfl,rfl,rfl,rfl⟩⟩;have T:=qH zl;have HO:=qH hO;have HN:=qH hN;have HT:=qH ht;have HV:=qH hV;have P:=qH zk;have DP:Hid (∀u a f g d f2 g2 d2 l',bZ w u B b V a f g d l'->l'.length<=100000000->Cw 110 #[Pq b,.agg #[Iq f2,Iq g2,Iq d2]] u λe u'=>e=Rw (.tuple #[])/\Hid (UX u B b V a f g d f2 g2 d2 l' u')):=λu a f g d f2 g2 d2 l' hu hl=>by obtain⟨N,v1,A,E,_⟩:=hu;exact T_ B b N v1 V a f g d l' f2 g2 d2 u A dg (aA K E.size)
 clear h hO hN ht zl hV zk;go_enter func69,ntmps69;go_wp2;go_loopw[10] (λiv wr=>∃k:Nat,iv=Iq k/\k<=n/\Hid (Sh w B b V l (∀i,i<n->m i=x i) (10+k*45) wr)) (λi _=>n-(intOf i).toNat);.exact⟨0,rfl,LT,H0.out⟩
 obtain⟨k,rfl,hk,R⟩:=hrel;by_cases H:k<n
 .have zu:(k:Int)<(n:Int):=dg;obtain⟨a0,f0,g0,d0,l0,C,L0,Z⟩:=id R.out;have BO:=HO.out.pen C zr;have BN:=HN.out.pen C zq;obtain⟨e,he⟩:=af (m k);obtain⟨o,ho⟩:=af (x k);obtain⟨t,f,g,d,q⟩:=e;obtain⟨t1,f1,g1,d1,q1⟩:=o;have z:∀(j:Nat) u,(c5 ⟨t,f,g,d,q⟩)[j]?=some u->wr.cell? (aq gN (0+k*5+j))=some u:=λj u h=>BN.cl.cell k H j u (by rw[he];exact h);rw[b_]at z;have x0:wr.cell? (aq gN (k*5))=some (.string t):=z 0 _ rfl;have x1:=z 1 (Iq f) rfl;have x2:=z 2 (Iq g) rfl;have x3:=z 3 (Iq d) rfl;have x4:=z 4 (Iq q) rfl;have y:Hid (∀r,Gr wr r->∀(j:Nat) u,(c5 ⟨t1,f1,g1,d1,q1⟩)[j]?=some u->r.cell? (aq gO (k*5+j))=some u):=λr hg j u hu=>by have:=(BO.gr hg).cl.cell k H j u (by rw[ho];exact hu);rwa[b_]at this
  have zB:t.size<=20:=by have:=T.out k H;rw[he]at this;exact this
  have O:Hid ((∀i,i<n->m i=x i)->(⟨t,f,g,d,q⟩:Ce)=⟨t1,f1,g1,d1,q1⟩):=λc=>by rw[<-he,<-ho];exact c k H
  obtain⟨r,L⟩:=af (wr.alloc (.cells #[.string t,Iq f,Iq g,Iq d,Iq q] 46));obtain⟨S,hS⟩:=af wr.heap.size;have I:Hid (Gr wr r):=by rw[<-L];exact(Gr.refl wr).alloc _
  have G:Hid (R5 46 r S ⟨t,f,g,d,q⟩):=by rw[<-L,<-hS];exact R5.new wr ⟨t,f,g,d,q⟩ _
  have zh:S≠b:=by obtain⟨N,v1,A,_⟩:=C;have:=A.lt;omega
  have J:Hid (B<=wr.heap.size):=aA K C.bel.size;clear z he ho BO BN;go_upto_region 3 with fail;clear x0 x1 x2 x3 x4 L hS;go_cut[25]from 15 to 24 (λs wx=>∃M:Bool,s=.bool M/\Hid (((∀i,i<n->m i=x i)->M=false)/\Gr r wx))
  .have c0:r.cell? (aq S 0)=some (.string t):=G.out.c0;have c1:r.cell? (aq S 1)=some (Iq f):=G.out.c1;have c2:r.cell? (aq S 2)=some (Iq g):=G.out.c2;have c3:r.cell? (aq S 3)=some (Iq d):=G.out.c3;have c4:r.cell? (aq S 4)=some (Iq q):=G.out.c4;have y0:r.cell? (aq gO (k*5))=some (.string t1):=y.out r I.out 0 _ rfl;have y1:=y.out r I.out 1 (Iq f1) rfl;have y2:=y.out r I.out 2 (Iq g1) rfl;have y3:=y.out r I.out 3 (Iq d1) rfl;have y4:=y.out r I.out 4 (Iq q1) rfl;clear y R G I H0 P HV HT HN HO T C L0 Z DP J;rcases QD (t:=t) (f:=f) (g:=g) (b:=d) (q:=q) (t1:=t1) (f1:=f1) (g1:=g1) (b1:=d1) (q1:=q1)with h|h;.injection h with h0 h1 h2 h3 h4;subst h0 h1 h2 h3 h4;go_quiet(fail);go_wp2;go_meet;exact⟨_,rfl,λ_=>rfl,(Gr.refl r).drewN _⟩
   .have zo:Hid (¬∀i,i<n->m i=x i):=λc=>by have:=O.out c;injection this with h0 h1 h2 h3 h4;subst h0 h1 h2 h3 h4;simp at h
    clear O;obtain⟨M,zw⟩:=af (q !=2);cases M;all_goals rcases h with e5|⟨rfl,e5|⟨rfl,e5|⟨rfl,e5|⟨rfl,e5⟩⟩⟩⟩;all_goals go_quiet(fail);go_wp2;go_meet;exact⟨_,rfl,λc=>absurd c zo.out,(Gr.refl r).drewN _⟩
  obtain⟨M,rfl,HC,GC⟩:=hcut;have GW:=I.out.trans GC;have Y:=qH (C.low GW.below J.out);have R1:Hid (R5 46 wc S ⟨t,f,g,d,q⟩):=(GC.below.block _ G.out.lt).trans G.out;have zm:Hid (B<=wc.heap.size):=aA J.out GW.size;clear G y R I C GC GW;cases M with
  |false=>go_wp2;exact⟨⟨k+1,by go_num,dg,a0,f0,g0,d0,l0,Y.out,dg,Z⟩,by simp only[intOf];omega⟩
  |true=>
   have zn:Hid (¬∀i,i<n->m i=x i):=λc=>nomatch HC c;have MV:Hid (Cw 109 #[Pq b,Iq (k:Int)] wc λe w'=>e=Rw (.tuple #[])/\Hid (Sd wc B b V k f0 g0 d0 (l0.length+10) w')):=by obtain⟨N,v1,A,E,_⟩:=Y.out;exact Ub B b N v1 V a0 f0 g0 d0 l0 k wc A dg zm.out HV.out (by have:=P.out;omega) (HT.out.below E zi) zi
   clear HC Z;go_wp2_with fail;refine MV.out.mono ?_;rintro e1 w1 ⟨rfl,H1⟩;obtain⟨l1,zy,P1⟩:=id H1.out;have R2:Hid (R5 46 w1 S ⟨t,f,g,d,q⟩):=P1.block R1.out zh (by decide);have c1:w1.cell? (aq S 1)=some (Iq f):=R2.out.c1;have c2:w1.cell? (aq S 2)=some (Iq g):=R2.out.c2;have c3:w1.cell? (aq S 3)=some (Iq d):=R2.out.c3;have U:=qH (Y.out.next P1);have DQ:=qH (DP.out w1 _ _ _ _ f g d l1 U.out dg);clear P1 H1 MV;go_wp2_with fail;refine DQ.out.mono ?_;rintro e2 F ⟨rfl,H2⟩;obtain⟨t2,zt,_,P2⟩:=id H2.out;have X:=qH (U.out.next P2);have D:Hid (R5 46 F S ⟨t,f,g,d,q⟩):=P2.block R2.out zh (by decide);have c0:F.cell? (aq S 0)=some (.string t):=D.out.c0;have c1:F.cell? (aq S 1)=some (Iq f):=D.out.c1;have c2:F.cell? (aq S 2)=some (Iq g):=D.out.c2;have c3:F.cell? (aq S 3)=some (Iq d):=D.out.c3;have c4:F.cell? (aq S 4)=some (Iq q):=D.out.c4;have WR:Hid (Cw 111 #[Pq b,.agg #[.string t,Iq f,Iq g,Iq d,Iq q]] F λe w'=>e=Rw (.tuple #[])/\∃a3,Hid (bZ F w' B b V a3 f g d (l1++t2++t.data.toList))):=by obtain⟨N,v1,A,E,_⟩:=X.out;exact(Eo B b N v1 (V:Int) k f g d (l1++t2) t f g d q F A (by rw[aN];omega) (aA K E.size) dg).mono λe u h=>⟨h.1,_,h.2⟩
   go_wp2_with fail;refine WR.out.mono ?_;rintro e3 w3 ⟨rfl,a3,H3⟩;go_wp2;refine⟨⟨k+1,by go_num,dg,a3,f,g,d,_,X.out.next H3.out,?_,λc=>absurd c zn.out⟩,by simp only[intOf];omega⟩;have e1:t.data.toList.length=t.size:=rfl;rw[aN,aN];omega
 .have zx:¬(k:Int)<(n:Int):=dg;obtain⟨a0,f0,g0,d0,l0,C,L0,Z⟩:=id R.out;have DQ:=qH (DP.out wr _ _ _ _ 0 0 0 l0 C dg);have Y:=qH C;clear DP R C;go_wp2_with fail;refine DQ.out.mono ?_;rintro e2 F ⟨rfl,H2⟩;obtain⟨t2,zt,z2,P2⟩:=id H2.out;go_wp2;go_end0;refine⟨rfl,a0,0,0,0,_,Y.out.next P2,by rw[aN];omega,λc=>⟨?_,rfl,rfl,rfl⟩⟩;obtain⟨rfl,rfl,rfl,rfl⟩:=Z c;rw[z2 ⟨rfl,rfl,rfl⟩,iP]
def Told(w w':AT)(B b:Nat):Prop:=Below B w w'/\Lib.OthersKept 5 (some b) w w'
def wQ(B b:Nat)(w:AT)(k:B<=b)(h:w.cell? (aq b 1)=some (.slice none 0 0)):
 Calls Tryz.prog 70 #[.pointer (some (aq b 0))] w λe w'=>e=Rw (.string ⟨#[]⟩)/\Hid (Told w w' B b):=by have j:∀W q,(Builtin.unsafeString_ #[208,3] 9 #[.pointer q,.int .i64 0]).run Tryz.prog W=.ok (.string .empty) W:=λW q=>Lib.run_unsafeString_none W _ _ _ q;have c1:w.drew.cell? (aq b 1)=some (.slice none 0 0):=h;have i:(Builtin.unsafeSliceData_ #[158] 208 #[.slice none 0 0]).run Tryz.prog w.drew=.ok (.pointer none) w.drew:=rfl;have c:Tryz.prog.follows .mixedOrders=true:=pt;go_enter Tryz.func70,Tryz.ntmps70;go_wp2;go_region_o;all_goals(go_wp2;go_ret;exact⟨rfl,jD (ac B w),(Lib.OthersKept.refl _ _ w).drew⟩)
def wR(B b g c:Nat)(w:AT)(n:B<=b)(h:c≠0)(j:w.cell? (aq b 1)=some (.slice (some (aq g 0)) 0 c)):
 Calls Tryz.prog 70 #[.pointer (some (aq b 0))] w λe w'=>e=Rw (.string ⟨#[]⟩)/\Hid (Told w w' B b):=by have m:∀W q,(Builtin.unsafeString_ #[208,3] 9 #[.pointer q,.int .i64 0]).run Tryz.prog W=.ok (.string .empty) W:=λW q=>Lib.run_unsafeString_none W _ _ _ q;have c1:w.drew.cell? (aq b 1)=some (.slice (some (aq g 0)) 0 c):=j;have k:(Builtin.unsafeSliceData_ #[158] 208 #[.slice (some (aq g 0)) 0 c]).run Tryz.prog w.drew=.ok (.pointer (some (aq g 0))) w.drew:=Lib.run_unsafeSliceData_row _ _ _ _ _ _ h;clear h;have i:Tryz.prog.follows .mixedOrders=true:=pt;go_enter Tryz.func70,Tryz.ntmps70;go_wp2;go_region_o;all_goals(go_wp2;go_ret;exact⟨rfl,jD (ac B w),(Lib.OthersKept.refl _ _ w).drew⟩)
def rl(B b g:Nat)(w:AT)(t:B<=b)(h:B<=w.heap.size)(j:b<w.heap.size)(c:Array Fd)(k:Nat×Nat)(s:w.heap[g]?=some (.cells c 5 k))(m:w.cell? (aq b 1)=some (.slice (some (aq g 0)) 0 0)):
 Calls Tryz.prog 70 #[.pointer (some (aq b 0))] w λe w'=>e=Rw (.string ⟨#[]⟩)/\Hid (Told w w' B b):=by
 have r:∀W q,(Builtin.unsafeString_ #[208,3] 9 #[.pointer q,.int .i64 0]).run Tryz.prog W=.ok (.string .empty) W:=λW q=>Lib.run_unsafeString_none W _ _ _ q;have c1:w.drew.cell? (aq b 1)=some (.slice (some (aq g 0)) 0 0):=m;have o:(Builtin.unsafeSliceData_ #[158] 208 #[.slice (some (aq g 0)) 0 0]).run Tryz.prog w.drew=.ok (.pointer (some (aq w.drew.heap.size 0))) (w.drew.alloc (.view (aq g 0) 5)):=
  Lib.run_unsafeSliceData_zero w.drew _ _ 5 pt (aq g 0) 0 (5,c.size) (by have i:w.drew.heap[g]?=some (.cells c 5 k):=s;simp[World.shape?,i]);have c2:(w.drew.alloc (.view (aq g 0) 5)).cell? (aq b 1)=some (.slice (some (aq g 0)) 0 0):=by rw[<-m];exact(((Gr.refl w).drew).alloc _).below.cell (p:=(aq b 1)) j
 have c3:(w.alloc (.view (aq g 0) 5)).drew.cell? (aq b 1)=some (.slice (some (aq g 0)) 0 0):=c2;have n:Tryz.prog.follows .mixedOrders=true:=pt;go_enter Tryz.func70,Tryz.ntmps70;go_wp2;go_region_o;all_goals(go_wp2;go_ret;exact⟨rfl,(jD (ac B w)).alloc h _,((Lib.OthersKept.refl _ _ w).drew).alloc _⟩)
def wT(B b g c:Nat)(l:zzf)(w:AT)(D:B<=b)(s:l≠[])(h:Array Fd)(m:Nat×Nat)(t:w.heap[g]?=some (.cells h 5 m))(n:B<=g)(C:l.length<=c)(k:c<=maxLen)(o:h.size=c*1)(i:∀(j:Nat) x,l[j]?=some x->w.cell? (((aq g 0):Addr).add j)=some (.int .u8 x.toNat))(y:w.cell? (aq b 1)=some (.slice (some (aq g 0)) l.length c)):
 Calls Tryz.prog 70 #[.pointer (some (aq b 0))] w λe w'=>e=Rw (.string ⟨l.toArray⟩)/\Hid (Told w w' B b):=by
 have r:l.length≠0:=by simpa using s
 have c1:w.drew.cell? (aq b 1)=some (.slice (some (aq g 0)) l.length c):=y;have z:(Builtin.unsafeSliceData_ #[158] 208 #[.slice (some (aq g 0)) l.length c]).run Tryz.prog w.drew=.ok (.pointer (some (aq g 0))) w.drew:=Lib.run_unsafeSliceData_row _ _ _ _ _ _ dg;have A:(Builtin.unsafeString_ #[208,3] 9 #[.pointer (some (aq g 0)),.int .i64 l.length]).run Tryz.prog w.drew=.ok (.string ⟨l.toArray⟩) (w.drew.freeze (aq g 0) l.length):=
  Lib.run_unsafeString_row w.drew 208 3 9 5 pt pt g h.size (by have q:w.drew.heap[g]?=some (.cells h 5 m):=t;simp[World.shape?,q]) l s dg (by unfold maxLen at k;omega) i;clear i C k o r;have u:Tryz.prog.follows .mixedOrders=true:=pt;go_enter Tryz.func70,Tryz.ntmps70;go_wp2;go_region_o;all_goals(go_wp2;go_ret;exact⟨rfl,Lib.below_freeze (jD (ac B w)) (p:=(aq g 0)) n _,((Lib.OthersKept.refl _ _ w).drew).freeze (aq g 0) _ ⟨h,m,t⟩⟩)
def zW(B b:Nat)(p v:Fd)(W a f g d:Int)(l:zzf)(w:AT)(h:dj w B b p v W a f g d l)(o:B<=w.heap.size):
 Calls Tryz.prog 70 #[.pointer (some (aq b 0))] w λe w'=>e=Rw (.string ⟨l.toArray⟩)/\Hid (Told w w' B b):=by
 have m:w.cell? (aq b 1)=some v:=h.cell (k:=1) rfl;rcases h.own.2 with⟨rfl,F⟩|⟨q,c,i,y,rfl,n,C,D,t,r,s,u⟩;.obtain rfl:l=[]:=kH F;exact wQ B b w h.low m
 .by_cases z:l=[]
  .subst z;by_cases A:c=0;.subst A;exact rl B b q w h.low o h.lt i y C m
   .exact wR B b q c w h.low A m
  .exact wT B b q c l w h.low z i y C n t r s (λj x E=>h.own.cells (g:=q) rfl j (.int .u8 x.toNat) (by simp[Lib.byteCells,E])) m
def Sm:Ce:=⟨⟨#[32]⟩,0,0,0,0⟩
def Qf(w:AT)(p:zze)(n:Nat)(C:Nat->Ce):Prop:=n=0\/∃g,p=some (aq g 0)/\CB w g 0 n C
def Qf.low{w w':AT}{p:zze}{n:Nat}{C:Nat->Ce}(h:Qf w p n C)(e:Bq w w'):Qf w' p n C:=h.imp id fun⟨g,a,c⟩=>⟨g,a,c.low e⟩
def CB.cong{w:AT}{g n:Nat}{C D:Nat->Ce}(h:CB w g 0 n C)(e:∀i,i<n->D i=C i):CB w g 0 n D:=⟨h.at_,h.cl.lt,λi hi k u hu=>h.cl.cell i hi k u (by rw[<-e i hi];exact hu)⟩
def Xr(w:AT)(c:Prop)(e:Ending)(w':AT):Prop:=∃(t:BY) (x:Int),e=Rw (.tuple #[.string t,Iq x])/\t.size<=8000000/\(c->t.size=0)/\Bq w w'
def LR(x j:Nat->Ce)(y V n:Nat)(pO:zze)(S o m:Nat)(w:AT)(zk:y<=1048576)(D:y<=o/\o<=9223372036854775807)(Y:n<=m/\m<=9223372036854775807)(hO:Qf w pO y x)(hN:CB w S 0 n j)(ht:aY w)(hg:11<w.heap.size)(zo:gC w)(zm:∀i,i<y->(x i).t.size<=20)(G:∀i,i<n->(j i).t.size<=20)(hV:1<=V/\V<=400)(hn:1<=n/\n<=400*V):
 Cw 35 #[.slice pO y o,Iq (V:Int),Sq S n m,Iq (V:Int)] w (Xr w (y=n/\∀i,i<n->j i=x i)):=by
 have zB:prog.follows .mixedOrders=true:=pt;obtain⟨c,hc⟩:=af (y=n/\∀i,i<n->j i=x i);rw[hc];have HN:=qH hN;have DS:Hid (∀u,Bq w u->Cw 66 #[Sq S n m,Iq (V:Int)] u λr u'=>AN u u' r (qN j n V)):=λu hu=>kT j V (some (aq S 0)) n m dg Y.1 Y.2 u (.inr ⟨S,rfl,(hN.low hu).cl⟩) (ht.below hu) λi hi=>by have:=G i hi;omega
 have DO:Hid (∀u,Bq w u->Cw 66 #[.slice pO y o,Iq (V:Int)] u λr u'=>∃b:Bool,r=Rw (.bool b)/\Hid ((c->qN j n V->b=true)/\Bq u u')):=λu hu=>by
  by_cases q:c;.rw[<-hc]at q;obtain⟨rfl,q⟩:=q;exact(kT j V pO y o zk D.1 D.2 u ((hO.low hu).imp id fun⟨g,a,c⟩=>⟨g,a,(c.cong q).cl⟩) (ht.below hu) λi hi=>by have:=G i hi;omega).mono λr u' ⟨b,F,T,h3⟩=>⟨b,F,λ_=>T.2,h3⟩
  .exact(kT x V pO y o zk D.1 D.2 u ((hO.low hu).imp id fun⟨g,a,c⟩=>⟨g,a,c.cl⟩) (ht.below hu) λi hi=>by have:=zm i hi;omega).mono λr u' ⟨b,F,T,h3⟩=>⟨b,F,λk=>absurd k q,h3⟩
 have UP:Hid (∀l b u v A R C,l.length<=10->bZ u v w.heap.size b V (-1) 0 0 0 l->Bq w v->w.heap.size<=b->CB v A 0 n C->A≠b->Cw 69 #[Pq b,Sq A n R,Sq S n m] v λe v'=>e=Rw (.tuple #[])/\Hid (Sh v w.heap.size b V l (∀i,i<n->j i=C i) 8000000 v')):=λl b u v A R C H hp hv hb hC zx=>by obtain⟨p1,v1,F,T,_⟩:=hp;exact Ud w.heap.size b p1 v1 V n l A R S m C j v F H hv.size hV hn.2 G hC (hN.low hv) zx (by have:=hN.cl.lt;omega) (zo.below hv hg) hg
 have zE:1<=n/\n<=160000:=dg;have HH:Hid (c->y=n/\∀i,i<n->j i=x i):=λq=>by rw[hc];exact q
 have HO:=qH hO;have zD:=hN.cl.lt;clear hN hO ht zo zm G hV hn hc D Y;go_enter func35,ntmps35;go_wp2_with fail;refine(DS.out w Ok).mono ?_;rintro e w1 ⟨bn,rfl,zl,z⟩;replace z:=qH z;cases bn with
 |false=>go_wp2;go_ret2;exact⟨_,_,rfl,by decide,λ_=>rfl,z⟩
 |true=>
  have zt:=qH (zl.1 rfl);clear zl;obtain⟨W2,U⟩:=af (w1.alloc (.cells #[.pointer none,.slice none 0 0,Iq (V:Int),Iq (-1),Iq 0,Iq 0,Iq 0] 162));obtain⟨b,X⟩:=af w1.heap.size;have G2:Hid (Gr w1 W2):=by rw[<-U];exact(Gr.refl w1).alloc _
  have zj:w.heap.size<=b:=by rw[<-X];exact z.size
  have J:Hid (Bq w W2):=z.trans (G2.below.mono z.size);have ze:Hid (dj W2 w.heap.size b (.pointer none) (.slice none 0 0) (V:Int) (-1) 0 0 0 []):=by refine⟨zj,.inl rfl,?_,⟨rfl,.inl ⟨rfl,rfl⟩⟩,λe=>nomatch e⟩;rw[<-U,<-X];exact sa w1 _
  go_upto_region 4 with fail;clear U X DS;go_cut[33]from 18 to 32 (λs wx=>∃P:Bool,s=.bool P/\Hid ((P=false->y=n)/\(c->P=false)/\Bq W2 wx))
  .by_cases H:y=n
   .have zy:((y:Int)!=(n:Int))=false:=by simp[H]
    have Z:=qH H;clear H;go_wp2_with fail;refine(DO.out W2 J.out).mono ?_;rintro e w3 ⟨P,rfl,N⟩;have zu:Hid (c->(!P)=false):=λq=>by rw[N.out.1 q zt.out];rfl
    go_wp2;go_meet;exact⟨_,rfl,λ_=>Z,zu,N.out.2⟩
   .have zy:((y:Int)!=(n:Int))=true:=by simpa using λe=>H (JF e)
    have Z:=qH H;clear H;go_wp2;go_meet;exact⟨true,rfl,(λh=>nomatch h),λq=>absurd (HH.out q).1 Z,Ok⟩
  obtain⟨P,rfl,N⟩:=hcut;have K:Hid (Bq w wc):=J.trans (N.2.2.mono J.size);have zg:=qH (ze.up N.2.2);have I:=K.size;clear DO ze;go_upto_if 33 with fail;go_cut[0,33]from 34 to 42 (λv _ wx=>∃A R C l,v=Sq A n R/\Hid (l.length<=10/\bZ wc wx w.heap.size b V (-1) 0 0 0 l/\CB wx A 0 n C/\A≠b/\(c->l=[]/\∀i,i<n->j i=C i)));.cases P with
   |false=>obtain rfl:=N.1 rfl;obtain⟨A,rfl,zh⟩:∃g,pO=some (aq g 0)/\CB w g 0 y x:=HO.out.resolve_left dg;have:=zh.cl.lt;go_wp2;go_meet;exact⟨A,o,x,[],rfl,by decide,⟨_,_,zg,Ok,Lib.OthersKept.refl _ _ _⟩,zh.low K,dg,λq=>⟨rfl,(HH.out q).2⟩⟩
   |true=>
    have PW:Hid (Cw 67 #[Pq b,.string ⟨#[27,91,50,74]⟩] wc λe w2=>e=Rw (.tuple #[Iq 4,.nilIface])/\Hid (bZ wc w2 w.heap.size b (V:Int) (-1) 0 0 0 [27,91,50,74])):=(eF w.heap.size b _ _ (V:Int) (-1) 0 0 0 [] ⟨#[27,91,50,74]⟩ wc zg (by decide) I).mono λe w2 ⟨he,F⟩=>⟨he,_,F⟩;have zv:Hid (¬c):=λq=>nomatch N.2.1 q;clear UP;go_wp2_with fail;refine PW.out.mono ?_;rintro e4 E ⟨rfl,H4⟩;have zn:=aA I H4.out.bel.size;have zA:b<E.heap.size:=by obtain⟨_,_,k1,_⟩:=H4.out;exact k1.lt
    clear PW;obtain⟨W5,zi⟩:=af (E.alloc (.cells #[.string ⟨#[32]⟩,Iq 0,Iq 0,Iq 0,Iq 0] 46));obtain⟨S5,zw⟩:=af E.heap.size;have G5:Hid (Gr E W5):=by rw[<-zi];exact(Gr.refl E).alloc _
    have O:R5 46 W5 S5 Sm:=by rw[<-zi,<-zw];exact R5.new E Sm _
    have RP:Hid (Cw 68 #[Sq S5 1 1,Iq (n:Int)] W5 λr w'=>r=Rw (Sq W5.heap.size n n)/\Hid (CB w' W5.heap.size 0 n (λ_=>Sm))/\Hid (Bq E w')):=by
     refine(oK (.inr (.inr ⟨rfl,rfl,rfl,rfl⟩)) W5 (c5 Sm) rfl (by simp[c5,Value.oneCell']) S5 n dg O.lt λk u hu=>?_).mono λr w' ⟨F,⟨L,T,h3⟩,h4⟩=>⟨F,⟨⟨_,_,T⟩,(aj.1 T).1,λi hi k u hu=>?_⟩,G5.out.below.trans (h4.mono G5.out.size)⟩;.rw[Lib.cell_of_heap O,<-hu];match k with
      |0=>rfl
      |1=>rfl
      |2=>rfl
      |3=>rfl
      |4=>rfl
      |_+5=>rfl
     .rw[Lib.cell_of_heap T,b_,List.getElem?_toArray];exact h3.2 i k u hi hu
    have zC:=G5.out.size;clear O;go_wp2_with fail;refine RP.out.mono ?_;rintro e6 w6 ⟨rfl,zr,zq⟩;go_wp2;go_meet;exact⟨_,_,_,_,rfl,by decide,H4.out.low zq.out zn,zr.out,dg,λq=>absurd q zv⟩
  obtain⟨A,R,C,l,rfl,HX⟩:=hcut;obtain⟨x1,x2,x3,x4,x5⟩:=HX;have M:=qH (K.trans x2.bel);have UQ:=qH (UP.out l b _ _ A R C x1 x2 M zj x3 x4);have HC:Hid (c->l=[]/\∀i,i<n->j i=C i):=x5;clear UP x1 x2 x3 x4 x5;go_wp2_with fail;refine UQ.out.mono ?_;rintro e4 E ⟨rfl,HU⟩;obtain⟨a,f,g,d,l',P4,L4,Z4⟩:=id HU.out;have ST:Hid (Cw 70 #[Pq b] E λe w'=>e=Rw (.string ⟨l'.toArray⟩)/\Hid (Bq w w')):=by obtain⟨p1,v1,k1,k2,k3⟩:=P4;have:=M.size;exact(zW w.heap.size b p1 v1 (V:Int) a f g d l' E k1 (aA this k2.size)).mono λe w' q=>⟨q.1,(M.trans k2).trans q.2.out.1⟩
  have Z:Hid (l'.length<=8000000/\(c->l'=[])):=⟨L4,λq=>(Z4 (HC q).2).1.trans (HC q).1⟩;clear UQ P4 L4 Z4;go_wp2_with fail;refine ST.out.mono ?_;rintro e5 w5 ⟨rfl,H5⟩;go_wp2;go_ret2;exact⟨_,_,rfl,by simpa[ByteArray.size]using Z.out.1,λq=>by rw[Z.out.2 q];rfl,H5.out⟩
