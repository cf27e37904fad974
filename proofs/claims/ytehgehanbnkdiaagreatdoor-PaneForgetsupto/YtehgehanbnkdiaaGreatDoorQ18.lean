import Derived.Test.YtehgehanbnkdiaaGreatDoorQ03
import Derived.Test.YtehgehanbnkdiaaGreatDoorQ17
set_option linter.all false
set_option maxRecDepth 100000
set_option maxHeartbeats 16000000
namespace Go.Proofs.YtehgehanbnkdiaaGreatDoor
open Go.RowKit Go.Proofs.Tryz
def Mq(j:Nat)(v:Fd):Prop:=(j %2=0->∃s,v=.string s/\s.size<=20)/\(j %2=1->∃x,v=Iq x/\0<=x/\x<=2)
theorem Ru{n:Nat}{s:BY}{x:Int}(h:s.size<=20)(c:0<=x/\x<=2):∀j u,[Value.string s,Iq x][j]?=some u->Mq (n*2+j) u:=λj u a=>by
 match j,a with
 |0,a=>simp at a;subst a;exact⟨λ_=>⟨_,rfl,h⟩,λh=>dg⟩
 |1,a=>simp at a;subst a;exact⟨λh=>dg,λ_=>⟨_,rfl,c⟩⟩
theorem Gc:(prog.info? 236).map (λi=>(i.zero,i.size,i.bytes))=some (some (.agg #[.string ⟨#[]⟩,Iq 0]),2,24):=pt
theorem pz(r:Int)(w:AT):Cw 137 #[Iq r] w λe w'=>(∃s:BY,e=Rw (.string s)/\s.size<=4)/\Bq w w':=
 (ny r w).mono λe w' ⟨a,c⟩=>⟨⟨_,a,by have:=gp r;simpa[ByteArray.size]using this⟩,c⟩
theorem jx(s:BY)(w:AT)(hs:s.size<=1099511627776):
 Cw 139 #[.string s] w λe w'=>KV w 236 2 s.size Mq e w'/\Bq w w':=by
 obtain⟨i0,hi,k,l,o⟩:=info_parts Gc;go_enter func139,ntmps139;go_wp2_with fail;refine(AX s _ hs).mono ?_;rintro e E ⟨⟨v,n,rfl,hn,_,B⟩,O⟩;obtain⟨p,cap,rfl,HL⟩:=B.sl;replace HL:=qH HL;replace O:=qH O;clear B;go_wp2;go_loopw[4,5] (λv i wr=>∃(z:Int) (m:Nat),i=Iq z/\(m:Int)<=z/\z<=n/\KR wr E.heap.size 236 2 v m Mq/\Bq E wr) (λ_ i _=>n-(intOf i).toNat);case atStart=>exact⟨0,0,rfl,dg,dg,KR.nil _ _ _ _ _,ac _ _⟩
 case round=>
  obtain⟨z,m,rfl,hm,hj,B,a⟩:=hrel;obtain⟨j,rfl⟩:=cU (by omega:0<=z);by_cases zi:j<n
  ·have R:(j:Int)<n:=dg
   obtain⟨g,rfl,hg,HG⟩:=HL dg;have HC:Hid (∀i,i<n->∃x,∀W,Bq E W->W.cell? (aq g i)=some (Iq x)):=λi hi=>by obtain⟨_,_,h2,x,rfl⟩:=HG.2 i dg;exact⟨x,λW hW=>(hW.cell (p:=(aq g i)) HG.1).trans h2⟩
   obtain⟨r,I⟩:=HC j zi;replace I:=qH I;have c0:=I wr a;clear HG;by_cases C:r=10
   ·subst C;go_wp2_with(at_builtin;refine yp (W0:=E) hi k l o B a [.string ⟨#[10]⟩,Iq 0] rfl _ _ rfl underlying238 ⟨rfl,by decide,by decide⟩ rfl rfl rfl ⟨rfl,rfl⟩ dg (Ru (by decide) (by decide)) ?_);intro v' w6 K2 zg _;go_wp2;go_roundw;case rel=>exact⟨_,m+1,rfl,dg,dg,K2,zg⟩
    grind[intOf]
   ·have zm:(r==10)=false:=by simpa using C
    have zk:=Iy r;have J:=qH (kP r);obtain⟨F,D⟩:=af (mM r);rw[D]at zk J;have ze:=qH D;clear D;have zh:F=0\/(F==0)=false:=by
     by_cases h:F=0;·exact .inl h
     ·exact .inr (by simpa using h)
    rcases zh with rfl|h0;all_goals
     go_wp2_with fail;refine(J _).mono ?_;rintro e w2 ⟨rfl,b2⟩;have U:=a.trans (b2.mono a.size);have c1:=I w2 U;go_wp2_with fail;refine(pz _ _).mono ?_;rintro e w3 ⟨⟨t,rfl,ht⟩,b3⟩;have V:=U.trans (b3.mono U.size);have K3:=qH ((B.below b2).below b3);clear b2 b3 U c1 c0 B a;go_wp2;go_loopw[5,7,8] (λi t m wr=>∃(q:Nat) (T:BY) (c:Int),i=Iq ((q:Int)-1)/\t=.string T/\m=Iq c/\0<=c/\c<=q/\(q=j/\mM r=0\/j<q)/\q<=n/\T.size<=4+4*(min c 4).toNat/\Bq w3 wr) (λi _ _ _=>n-(1+intOf i).toNat);case atStart=>first|exact⟨j,_,0,rfl,rfl,rfl,dg,dg,.inl ⟨rfl,ze⟩,dg,by decide,ac _ _⟩|exact⟨j+1,_,0,by go_num,rfl,rfl,dg,dg,.inr dg,dg,dg,ac _ _⟩
     case round=>
      obtain⟨q,T,c,rfl,rfl,rfl,c0,c1,X,q2,hT,a⟩:=hrel;have zn:j<=q:=dg;replace X:=qH X;have y:=V.trans (a.mono V.size);by_cases hq:q<n
      ·have zj:(q:Int)<n:=dg
       obtain⟨x,Y⟩:=HC q hq;replace Y:=qH Y;have d0:=Y wr y;have HJ:Hid (q=j->x=r):=λe=>by subst e;have:=I wr y;rw[d0]at this;simpa using this
       by_cases S:x=10
       ·have Q:j<q:=X.resolve_left λe=>C ((HJ e.1).symm.trans S);have L:=K3.below a;have zl:(x !=10)=false:=by simpa using S
        clear S;go_wp2_with(at_builtin;refine yp (W0:=E) hi k l o L y [.string T,Iq _] rfl _ _ rfl underlying238 ⟨rfl,by decide,by decide⟩ rfl rfl rfl ⟨rfl,rfl⟩ dg (Ru dg dg) ?_;intro v' w6 N G _);exact⟨⟨_,m+1,rfl,dg,dg,N,G⟩,by simp only[intOf];omega⟩
       ·have zl:(x !=10)=true:=by simpa using S
        have A:=qH (kP x);obtain⟨vx,f⟩:=af (mM x);rw[f]at A;replace f:=qH f;clear S;by_cases Z:vx=0
        ·subst Z;go_wp2_with fail;refine(A _).mono ?_;rintro e w5 ⟨rfl,P⟩;have d:=a.trans (P.mono a.size);have d5:=Y w5 (V.trans (d.mono V.size));clear a P;by_cases h4:c<4;·go_wp2_with(go_at_call 137;refine(pz _ _).mono ?_;rintro e w6 ⟨⟨u,rfl,hu⟩,b6⟩;replace d:=d.trans (b6.mono d.size));exact⟨⟨q+1,T++u,c+1,by go_num,rfl,rfl,dg,dg,.inr dg,dg,by rw[fk];omega,d⟩,by simp only[intOf];omega⟩
         ·go_wp2;exact⟨⟨q+1,T,c+1,by go_num,rfl,rfl,dg,dg,.inr dg,dg,dg,d⟩,by simp only[intOf];omega⟩
        ·have zo:(vx==0)=false:=by simpa using Z
         have Q:j<q:=X.resolve_left λe=>Z (by rw[<-f.out,HJ e.1];exact e.2);clear Z;go_wp2_with fail;refine(A _).mono ?_;rintro e w5 ⟨rfl,P⟩;replace y:=y.trans (P.mono y.size);have L:=(K3.below a).below P;go_wp2_with(at_builtin;refine yp (W0:=E) hi k l o L y [.string T,Iq _] rfl _ _ rfl underlying238 ⟨rfl,by decide,by decide⟩ rfl rfl rfl ⟨rfl,rfl⟩ dg (Ru dg dg) ?_;intro v' w6 N G _);exact⟨⟨_,m+1,rfl,dg,dg,N,G⟩,by simp only[intOf];omega⟩
      ·have zj:¬(q:Int)<n:=dg
       have Q:j<q:=dg;have L:=K3.below a;go_wp2_with(at_builtin;refine yp (W0:=E) hi k l o L y [.string T,Iq _] rfl _ _ rfl underlying238 ⟨rfl,by decide,by decide⟩ rfl rfl rfl ⟨rfl,rfl⟩ dg (Ru dg dg) ?_;intro v' w6 N G _);exact⟨⟨_,m+1,rfl,dg,dg,N,G⟩,by simp only[intOf];omega⟩
  ·have R:¬(j:Int)<n:=dg
   go_wp2;go_ret;exact⟨⟨_,m,rfl,dg,B.base O.size⟩,O.trans (a.mono O.size)⟩
theorem MZ{W:AT}{g n cap:Nat}(h:KB W g (n*2) Mq)(d:n<=cap)(q:n<=1000000):∃S X,KQ W (Sq g n cap) n S X:=by
 obtain⟨f,l⟩:=h;have hS:∀k,∃s:BY,k<n->s.size<=20/\W.cell? (aq g (k*2))=some (.string s):=λk=>by
  by_cases c:k<n;·obtain⟨_,_,e,i,_⟩:=l (k*2) dg;obtain⟨s,rfl,j⟩:=i dg;exact⟨s,λ_=>⟨j,e⟩⟩
  ·exact⟨⟨#[]⟩,λh=>absurd h c⟩
 have o:∀k,∃x:Int,k<n->(0<=x/\x<=2)/\W.cell? (aq g (k*2+1))=some (Iq x):=λk=>by
  by_cases c:k<n;·obtain⟨_,_,e,_,i⟩:=l (k*2+1) dg;obtain⟨s,rfl,j⟩:=i dg;exact⟨s,λ_=>⟨j,e⟩⟩
  ·exact⟨0,λh=>absurd h c⟩
 refine⟨λk=>(hS k).choose,λk=>(o k).choose,q,_,_,d,rfl,λk c=>?_⟩;have a:=(hS k).choose_spec c;have b:=(o k).choose_spec c;refine⟨⟨a.1,b.1⟩,g,0,rfl,f,λU m=>?_⟩;rw[ci,m.cell (p:=(aq g _)) f,m.cell (p:=(aq g _)) f];exact⟨a.2,b.2⟩
theorem GL{W:AT}{B n cap s:Nat}{p:zze}{e:TypeId}{P:Nat->Fd->Prop}(h:KR W B e s (.slice p n cap) n P):n<=cap:=by
 obtain⟨f,h,_⟩:=h;rcases h.2 with⟨e,a⟩|⟨g,c,_,e,_,_,d,_⟩;·omega
 ·have:=(by simpa using e:p=_/\cap=c).2;omega
theorem M5{W:AT}{B n cap:Nat}{p:zze}(h:KR W B 236 2 (.slice p n cap) n Mq)(d:n<=1000000):∃S X,KQ W (.slice p n cap) n S X:=by
 have a:=GL h;by_cases f:0<n
 ·obtain⟨g,c,e,_,i⟩:=h.kb f;obtain⟨rfl,rfl⟩:p=some (aq g 0)/\cap=c:=by simpa using e
  exact MZ i a d
 ·exact⟨λ_=>⟨#[]⟩,λ_=>0,d,_,_,a,rfl,λk j=>dg⟩
theorem Oe(x:Int)(W:AT):Cw 276 #[.slice none 0 0,Iq 0,Iq x] W λe w'=>RX 0 0 e/\Bq W w':=by
 have N:prog.follows .mixedOrders=true:=pt;have u:Hid (∀w,KQ w (.slice none 0 0) 0 (λ_=>⟨#[]⟩) (λ_=>0)):=λw=>⟨dg,_,_,ad _,rfl,λk T=>dg⟩;have J:Hid (∀U,Cw 278 #[.slice none 0 0] U λe w2=>e=Rw (.string ⟨#[]⟩)/\w2=U):=λU=>vh (u U) U (ac _ _);have L:Hid (∀U,Cw 277 #[.slice none 0 0] U λe w2=>e=Rw (Iq 0)/\w2=U):=λU=>vi (u U) U (ac _ _);have t:Bq W (W.alloc (.cells #[.string ⟨#[]⟩,Iq 0,Iq 0,Iq 0,Iq 0] 309)):=(ac _ _).alloc (ad _) _;go_enter func276,ntmps276;go_wp2_with fail;refine(N' (u _) x _ (ac _ _)).mono ?_;rintro e s ⟨⟨m,rfl,V,_⟩,rfl⟩;obtain rfl:m=0:=dg
 obtain⟨s,d⟩:=af (W.alloc (.cells #[.string ⟨#[]⟩,Iq 0,Iq 0,Iq 0,Iq 0] 309));rw[d]at t⊢;have D:Hid (s.heap[W.heap.size]?=some (.cells #[.string ⟨#[]⟩,Iq 0,Iq 0,Iq 0,Iq 0] 309 (0,0))):=by show _=_;rw[<-d];simp only[World.alloc];rw[su,if_pos rfl]
 have A:W.heap.size<s.heap.size:=by rw[<-d,ai];omega
 clear d;go_wp2_with fail;go_cut[10]from 12 to 32 (λp I=>∃B,p=Pq B/\s.heap.size<=B/\I.heap[B]?=some (.cells #[.string ⟨#[]⟩,Iq 0,Iq 0,Iq 0,Iq 0] 309 (0,0))/\Bq s I);case first=>
  go_region_with(first|(go_at_call 278;refine(J _).mono ?_;rintro e O ⟨rfl,rfl⟩)|(go_at_call 277;refine(L _).mono ?_;rintro e O ⟨rfl,rfl⟩));all_goals(go_wp2_with fail)
  all_goals go_meet
  all_goals exact⟨_,rfl,ad _,by simp only[World.drew,World.alloc];rw[su,if_pos rfl],((ac _ _).alloc (ad _) _).drew⟩
 case rest=>
  obtain⟨B,rfl,S,a,f⟩:=hcut;have o:B≠W.heap.size:=dg;have c:=(f.block _ A).trans D;have z:=qH (t.trans (f.mono t.size));have q0:wc.cell? (aq B 0)=some (.string ⟨#[]⟩):=by simp[World.cell?,a]
  have q1:wc.cell? (aq B 1)=some (Iq 0):=by simp[World.cell?,a]
  have q2:wc.cell? (aq B 2)=some (Iq 0):=by simp[World.cell?,a]
  have q3:wc.cell? (aq B 3)=some (Iq 0):=by simp[World.cell?,a]
  have q4:wc.cell? (aq B 4)=some (Iq 0):=by simp[World.cell?,a]
  have Q:∀j,wc.frozen? (aq B j)=false:=λj=>frozen_of_row _ _ _ _ _ a;have q:W.heap.size<=B:=dg;obtain⟨R,y⟩:=af W.heap.size;have i:Hid (R=W.heap.size):=y.symm;rw[y]at c o q⊢;have X:wc.cell? (aq R 0)=some (.string ⟨#[]⟩):=by simp[World.cell?,c]
  have Y:wc.cell? (aq R 1)=some (Iq 0):=by simp[World.cell?,c]
  have Z:wc.cell? (aq R 2)=some (Iq 0):=by simp[World.cell?,c]
  have p3:wc.cell? (aq R 3)=some (Iq 0):=by simp[World.cell?,c]
  have p4:wc.cell? (aq R 4)=some (Iq 0):=by simp[World.cell?,c]
  have P:∀j,wc.frozen? (aq R j)=false:=λj=>frozen_of_row _ _ _ _ _ c;have g:Hid (∀(C:AT) (E v1 v2 F G:Fd),Bq W C->Bq W (((((C.setCell (aq R 0) E).setCell (aq R 1) v1).setCell (aq R 2) v2).setCell (aq R 3) F).setCell (aq R 4) G)):=λC E v1 v2 F G h=>by have r:∀j,W.heap.size<=((aq R j):Addr).block:=λj=>xm i.out.symm;exact((((h.setCell (r 0) _).setCell (r 1) _).setCell (r 2) _).setCell (r 3) _).setCell (r 4) _
  have l:Hid (∀v,(wc.setCell (aq B 4) v).heap[R]?=some (.cells #[.string ⟨#[]⟩,Iq 0,Iq 0,Iq 0,Iq 0] 309 (0,0))/\Bq W (wc.setCell (aq B 4) v)):=λv=>⟨by rw[heap_setCell_other _ _ _ _ (λe=>o e.symm)];exact c,z.setCell (by rw[<-i.out];exact q) _⟩;clear a c D f y t;go_wp2;refine bodyPost_ret (yu rfl _ _ _ R _ rfl (run_loadVar_row _ _ _ _ _ _ _ (pD (l _).1) underlying309 rfl pt)) rfl ?_;exact⟨⟨_,_,_,_,3,0,rfl,by decide,.inl rfl⟩,g _ _ _ _ _ _ (l _).2⟩
def RV(j:Nat)(v:Fd):Prop:=(j %5=0->∃s,v=.string s/\s.size<=80000)/\(j %5≠0->∃x,v=Iq x)
theorem YO{n:Nat}{s:BY}{a b c d:Int}(h:s.size<=80000):∀j u,[Value.string s,Iq a,Iq b,Iq c,Iq d][j]?=some u->RV (n*5+j) u:=λj u e=>by
 match j,e with
 |0,e=>simp at e;subst e;exact⟨λ_=>⟨_,rfl,h⟩,λh=>dg⟩
 |1,e=>simp at e;subst e;exact⟨λh=>dg,λ_=>⟨_,rfl⟩⟩
 |2,e=>simp at e;subst e;exact⟨λh=>dg,λ_=>⟨_,rfl⟩⟩
 |3,e=>simp at e;subst e;exact⟨λh=>dg,λ_=>⟨_,rfl⟩⟩
 |4,e=>simp at e;subst e;exact⟨λh=>dg,λ_=>⟨_,rfl⟩⟩
theorem Of:(prog.info? 309).map (λi=>(i.zero,i.size,i.bytes))=some (some (.agg #[.string ⟨#[]⟩,Iq 0,Iq 0,Iq 0,Iq 0]),5,48):=pt
def rz:Fd->Nat
 |.bool true=>1
 |_=>0
theorem Gg(s:BY)(x:Int)(w:AT)(hs:s.size<=4000):
 Cw 218 #[.string s,Iq x] w λe w'=>KV w 309 5 4001 RV e w'/\Bq w w':=by
 obtain⟨i0,hi,E,F,G⟩:=info_parts Of;by_cases hx:x<1;·go_enter func218,ntmps218;go_wp2;go_ret;exact⟨⟨_,0,rfl,dg,KR.nil _ _ _ _ _⟩,ac _ _⟩
 go_enter func218,ntmps218;go_wp2_with fail;refine(jx s _ dg).mono ?_;rintro e A ⟨⟨v,n,rfl,hn,d⟩,i⟩;have CL:Hid (∀a,a<=n->∀W,Bq A W->Cw 276 #[v,Iq (a:Nat),Iq x] W λe w'=>RX n a e/\Bq W w'):=by
  obtain⟨p,cap,rfl,_⟩:=d.sl;obtain⟨S,X,V⟩:=M5 d dg;match p with
  |some ⟨g,o,none⟩=>exact λa N W L=>Qt V dg a N x dg W L
  |some ⟨g,o,some z⟩=>obtain⟨Z,h,_⟩:=d;rcases h.2 with⟨e,h0⟩|⟨g,c,_,e,_⟩<;>simp at e
  |none=>
   obtain⟨Z,h,_⟩:=d;rcases h.2 with⟨e,rfl⟩|⟨g,c,_,e,_⟩
   ·obtain rfl:cap=0:=by simpa using e
    intro a N W L;obtain rfl:a=0:=dg;exact Oe x W
   ·simp at e
 replace i:=qH i;clear d;go_wp2_with fail;go_loopw[6,7,8] (λv a b wr=>∃(z m:Nat) (c:Bool),a=Iq z/\b=.bool c/\(c=true->z<=n/\m<=z)/\m<=4001/\KR wr A.heap.size 309 5 v m RV/\Bq A wr) (λ_ a b _=>rz b*(n+1-(intOf a).toNat));case atStart=>exact⟨0,0,true,rfl,rfl,λ_=>⟨dg,dg⟩,dg,KR.nil _ _ _ _ _,ac _ _⟩
 case round=>
  obtain⟨z,m,c,rfl,rfl,t,U,B,u⟩:=hrel;cases c;·go_wp2;go_ret;exact⟨⟨_,m,rfl,U,B.base i.size⟩,i.trans (u.mono i.size)⟩
  ·obtain⟨P,h2⟩:=t rfl;clear t;go_wp2_with fail;refine(CL z P _ u).mono ?_;rintro e O ⟨⟨T,p,q,r,f,y,rfl,Q,hy⟩,C⟩;have j:=u.trans (C.mono u.size);have k:=j.alloc j.size (.cells #[.string T,Iq p,Iq q,Iq r,Iq f] 309);have I:=(B.below C).below ((ac _ O).alloc (ad _) (.cells #[.string T,Iq p,Iq q,Iq r,Iq f] 309));go_wp2_with(at_builtin;refine yp (W0:=A) hi E F G I k [.string T,Iq p,Iq q,Iq r,Iq f] rfl _ _ rfl underlying306 ⟨rfl,by decide,by decide⟩ rfl rfl At ⟨rfl,rfl⟩ dg (YO Q) ?_);intro v' Y J l t;have cx:Y.cell? ⟨O.heap.size,4,none⟩=some (Iq f):=by rw[aO (t _ At ((B.below C).own (ad _))),World.cell?_alloc_at _ _ _ _ rfl];rfl
   clear t I k;by_cases D:f=3;·subst D;go_wp2;exact⟨⟨y,m+1,false,rfl,rfl,λh=>by simp at h,dg,J,l⟩,by simp only[rz,intOf];omega⟩
   ·have R:(f !=3)=true:=by simpa using D
    obtain⟨y1,y2⟩:=hy.resolve_left D;go_wp2;exact⟨⟨y,m+1,true,rfl,rfl,λ_=>⟨y2,dg⟩,dg,J,l⟩,by simp only[rz,intOf];omega⟩
def KU(a b:Int)(e:Ending):Prop:=∃x,e=Rw (Iq x)/\a<=x/\x<=b
theorem ve(s:BY)(w:AT)(i:s.size<=90000):
 Cw 221 #[.string s] w λe w'=>KU 0 180000 e/\Bq w w':=by go_enter func221,ntmps221;go_wp2_with fail;refine(jx s _ dg).mono ?_;rintro e l ⟨⟨v,n,rfl,h,c⟩,d⟩;obtain⟨p,cap,rfl,_⟩:=c.sl;obtain⟨S,X,a⟩:=M5 c dg;have g:=Ii (X:=X) (k:=n) (by obtain⟨_,_,_,_,_,H⟩:=a;exact λj f=>(H j f).1.2);replace a:=qH a;go_wp2_with fail;refine(vi a _ (ac _ _)).mono ?_;rintro e w2 ⟨rfl,rfl⟩;go_wp2;go_ret;exact⟨⟨_,rfl,dg,dg⟩,d⟩
def Pg(b:Nat)(_:Nat)(v:Fd):Prop:=∃s:BY,v=.string s/\s.size<=b
theorem QB:(prog.info? 9).map (λi=>(i.zero,i.size,i.bytes))=some (some (.string ⟨#[]⟩),1,16):=pt
theorem yo(s:BY)(w:AT)(B:s.size<=4000):
 Cw 219 #[.string s] w λe w'=>KV w 9 1 4001 (Pg 4000) e w'/\Bq w w':=by
 obtain⟨C,hi,k,l,o⟩:=info_parts QB;go_enter func219,ntmps219;go_wp2;obtain⟨n,A⟩:=af s.size;go_loopw[3,4,5] (λv f i wr=>∃a j m:Nat,i=Iq j/\f=Iq a/\j<=n+1/\a<=j/\m<=j/\KR wr w.heap.size 9 1 v m (Pg 4000)/\Bq w wr) (λ_ _ i _=>n+1-(intOf i).toNat);case atStart=>exact⟨0,0,0,rfl,rfl,dg,dg,dg,KR.nil _ _ _ _ _,ac _ _⟩
 case round=>
  obtain⟨a,j,m,rfl,rfl,y,x,z,c,d⟩:=hrel;rcases(by omega:j=n+1\/j=n\/j<n)with rfl|rfl|r
  ·have q:¬((n+1:Nat):Int)<=s.size:=dg
   go_wp2;go_ret;exact⟨⟨_,m,rfl,dg,c⟩,d⟩
  all_goals
   have q:(j:Int)<=s.size:=dg;have h:(s.extract a j).size<=4000:=by rw[nG];omega
   try have u:(j:Int)<s.size:=dg
   go_wp2_with(at_builtin;refine yp (W0:=w) hi k l o c d [.string (s.extract a j)] rfl _ _ rfl underlying171 ⟨rfl,by decide,by decide⟩ rfl rfl rfl ⟨rfl,rfl⟩ dg (Ot ⟨_,rfl,h⟩) ?_;intro D E p g _);all_goals first
    |exact⟨⟨j+1,j+1,m+1,by go_num,by go_num,dg,dg,dg,p,g⟩,by simp only[intOf];omega⟩
    |exact⟨⟨a,j+1,m,by go_num,rfl,dg,dg,dg,c,d⟩,by simp only[intOf];omega⟩
theorem pw(a b:Int)(w:AT):Cw 211 #[Iq a,Iq b] w λe w'=>e=Rw (Iq (min a b))/\w'=w:=by
 have c:Hid (∀z,z=min a b->Ending.returned (Iq z)=Rw (Iq (min a b))):=λz h=>by rw[h]
 go_enter func211,ntmps211;go_wp2;all_goals go_ret;exact⟨c _ dg,rfl⟩
theorem kH(a b:Int)(w:AT):Cw 44 #[Iq a,Iq b] w λe w'=>e=Rw (Iq (max a b))/\w'=w:=by
 have c:Hid (∀z,z=max a b->Ending.returned (Iq z)=Rw (Iq (max a b))):=λz h=>by rw[h]
 go_enter func44,ntmps44;go_wp2;all_goals go_ret;exact⟨c _ dg,rfl⟩
theorem N5(t:BY)(x h:Int)(w:AT)(u:t.size<=90000):
 Cw 140 #[.string t,Iq x,Iq h] w λe w'=>KS 190000 e/\Bq w w':=by
 go_enter func140,ntmps140;go_wp2_with fail;refine(ve t _ u).mono ?_;rintro e D ⟨⟨c,rfl,z,c1⟩,a⟩;go_wp2_with fail;refine(pw _ _ _).mono ?_;rintro e w2 ⟨rfl,rfl⟩;obtain⟨y,hy⟩:=af (min x 100000);have v:y<=100000:=dg
 rw[hy];clear hy;by_cases q:y<=c;·go_wp2;go_ret;exact⟨⟨t,rfl,dg⟩,a⟩
 have r:¬y<=c:=q;obtain⟨N,C⟩:=cU (by omega:0<=y-c);have p:N<=100000:=dg
 obtain⟨M,B,o⟩:∃M:Nat,(N:Int).tdiv 2=M/\M<=N:=⟨N/2,by rw[sB dg];omega,dg⟩;have CB:Hid (∀k:Nat,k<=100000->∀W,Cw 222 #[Iq k] W λe w'=>KS k e/\w'=W):=λk s W=>(AW k s W).mono λe w' ⟨d,f⟩=>⟨⟨_,d,xm (oQ k)⟩,f⟩;have j:Hid (∀W,Cw 222 #[Iq 0] W λe w'=>KS 0 e/\w'=W):=CB 0 dg;have A:((N:Int)-M)=((N-M:Nat):Int):=dg
 rcases(by omega:h=1\/h=2\/(h≠1/\h≠2))with rfl|rfl|⟨d,f⟩;rotate_right
 ·have l:(h==1)=false:=by simpa using d
  have m:(h==2)=false:=by simpa using f
  go_wp2_with(go_at_call 222;first|(refine(CB _ dg _).mono ?_;rintro e i ⟨⟨T,rfl,g⟩,rfl⟩)|(refine(j _).mono ?_;rintro e i ⟨⟨T,rfl,g⟩,rfl⟩));go_ret;exact⟨⟨_,rfl,by rw[fk,fk];omega⟩,a⟩
 all_goals go_wp2_with(go_at_call 222;first|(refine(CB _ dg _).mono ?_;rintro e i ⟨⟨T,rfl,g⟩,rfl⟩)|(refine(j _).mono ?_;rintro e i ⟨⟨T,rfl,g⟩,rfl⟩));go_ret;exact⟨⟨_,rfl,by rw[fk,fk];omega⟩,a⟩
theorem KQ.pre{w:AT}{p:zze}{n cap m:Nat}{S:Nat->BY}{X:zzb}(h:KQ w (.slice p n cap) n S X)(i:m<=n):KQ w (.slice p m cap) m S X:=by
 obtain⟨j,e,a,f,d,c⟩:=h;obtain⟨rfl,rfl⟩:p=e/\cap=a:=by simpa using d
 exact⟨dg,_,_,dg,rfl,λk g=>c k dg⟩
theorem Tj(s:BY)(x:Int)(w:AT)(hs:s.size<=4000):
 Cw 220 #[.string s,Iq x] w λe w'=>KS 80004 e/\Bq w w':=by
 by_cases hx:x<1;·go_enter func220,ntmps220;go_wp2;go_ret;exact⟨⟨_,rfl,by decide⟩,ac _ _⟩
 go_enter func220,ntmps220;go_wp2_with fail;refine(jx s _ dg).mono ?_;rintro e w1 ⟨⟨v,n,rfl,hn,z⟩,G⟩;obtain⟨p,cap,rfl,a⟩:=z.sl;have c:=GL z;have hB:=G.size;have E:Hid (n=0\/∃g,p=some (aq g 0)/\w.heap.size<=g/\KB w1 g (n*2) Mq):=by
  rcases IP n with h|h;·exact .inl h
  ·exact .inr (a h)
 clear a z;go_wp2_with fail;go_loopw[6] (λi wr=>∃k:Nat,i=Iq k/\k<=n/\Hid (n=0\/∃g,p=some (aq g 0)/\w.heap.size<=g/\KB wr g (n*2) Mq)/\Hid (Bq w wr)) (λi _=>n-(intOf i).toNat);case atStart=>exact⟨0,rfl,dg,E,G⟩
 case round=>
  obtain⟨k,rfl,U,r,o⟩:=hrel;by_cases Y:k<n
  ·have q:(k:Int)<n:=dg
   obtain⟨g,rfl,t,a⟩:=r.resolve_left dg;replace a:=qH a;obtain⟨f0,_,c0,I,_⟩:=a.2 (k*2) dg;obtain⟨T,rfl,hT⟩:=I dg;obtain⟨f1,_,c1,_,L⟩:=a.2 (k*2+1) dg;obtain⟨X,rfl,R⟩:=L dg;clear I L r;have F:Hid (KB ((wr.setCell (aq g (k*2)) (.string ⟨#[32]⟩)).setCell (aq g (k*2+1)) (Iq 1)) g (n*2) Mq/\Bq w ((wr.setCell (aq g (k*2)) (.string ⟨#[32]⟩)).setCell (aq g (k*2+1)) (Iq 1))):=
    ⟨(a.set g (k*2) _ λ_=>⟨λ_=>⟨_,rfl,by decide⟩,λh=>dg⟩).set g (k*2+1) _ λ_=>⟨λh=>dg,λ_=>⟨1,rfl,dg,dg⟩⟩,(o.setCell (p:=(aq g _)) t _).setCell (p:=(aq g _)) t _⟩;go_wp2_with fail;all_goals first
    |exact⟨⟨k+1,by go_num,dg,.inr ⟨g,rfl,t,a⟩,o⟩,by simp only[intOf];omega⟩
    |exact⟨⟨k+1,by go_num,dg,.inr ⟨g,rfl,t,F.1⟩,F.2⟩,by simp only[intOf];omega⟩
  ·have q:¬(k:Int)<n:=dg
   obtain⟨w2,rfl⟩:=xF wr;obtain⟨S,X,d⟩:∃S X,KQ w2 (.slice p n cap) n S X:=by
    rcases r.out with h|⟨g,rfl,_,h⟩;·exact⟨λ_=>⟨#[]⟩,λ_=>0,dg,_,_,c,rfl,λk U=>dg⟩
    ·exact MZ h c dg
   have A:=oX (S:=S) (k:=n) (by obtain⟨_,_,_,_,_,H⟩:=d;exact λj O=>(H j O).1.1);have y:Hid (∀m,m<=n->(Fm S m).size<=20*m):=λm B=>oX (S:=S) (k:=m) (by obtain⟨_,_,_,_,_,H⟩:=d;exact λj O=>(H j dg).1.1);replace d:=qH d;clear r E;go_wp2_with fail;refine(vi d _ (ac _ _)).mono ?_;rintro e D ⟨rfl,f⟩;obtain rfl:=f.symm;obtain⟨Z,N⟩:=af (Jl X n);rw[N];clear N;by_cases V:Z<=x;·go_wp2_with fail;refine(vh d _ (ac _ _)).mono ?_;rintro e D ⟨rfl,f⟩;obtain rfl:=f.symm;obtain⟨J,l⟩:=af (Fm S n);rw[l]at A⊢;clear l;go_wp2;go_ret;exact⟨⟨J,rfl,dg⟩,o⟩
   ·go_wp2_with fail;refine(N' d _ _ (ac _ _)).mono ?_;rintro e D ⟨⟨m,rfl,B,_⟩,f⟩;obtain rfl:=f.symm;have ze:(m:Int)<=cap:=dg
    have Q:=y m B;have C:=qH (d.pre B);go_wp2_with fail;refine(vh C _ (ac _ _)).mono ?_;rintro e D ⟨rfl,f⟩;obtain rfl:=f.symm;obtain⟨J,l⟩:=af (Fm S m);rw[l]at Q⊢;clear l;go_wp2_with fail;refine(pz _ _).mono ?_;rintro e w6 ⟨⟨u,rfl,hu⟩,P⟩;go_wp2;go_ret;exact⟨⟨_,rfl,by rw[fk];omega⟩,o.trans (P.mono o.size)⟩
structure KN(w:AT)(g n k:Nat)(kd:Int)(ab:Nat)(t:BY)(kp:zze)(m kc:Nat)(up:Int):Prop where
 tl:t.size<=4000
 ml:m<=100
 u0:-1<=up/\up<k
 c:∀W,Bq w W->W.cell? (aq g (k*5))=some (Iq kd)/\W.cell? (aq g (k*5+1))=some (Sq ab 12 12)/\W.cell? (aq g (k*5+2))=some (.string t)/\W.cell? (aq g (k*5+3))=some (.slice kp m kc)/\W.cell? (aq g (k*5+4))=some (Iq up)
 a:∀j,j<12->∃x,∀W,Bq w W->W.cell? (aq ab j)=some (Iq x)
 kid:∀i,i<m->∃kb ko c,kp=some (aq kb ko)/\k<c/\c<n/\∀W,Bq w W->W.cell? (aq kb (ko+i))=some (Iq (c:Nat))
def uf(w:AT)(g n:Nat):Prop:=n<=100/\∀k,k<n->∃kd ab t kp m kc up,KN w g n k kd ab t kp m kc up
theorem klt{W:AT}{p:Addr}{v:Fd}(h:W.cell? p=some v):p.block<W.heap.size:=by
 by_cases a:p.block<W.heap.size;·exact a
 ·unfold World.cell? at h;rw[xr dg]at h;simp at h
theorem Ob(f up:Int)(ab m d:Nat)(t:BY)(g:zze)(W:AT){h i:Int}(c:W.cell? (aq ab 5)=some (Iq h))(j:W.cell? (aq ab 6)=some (Iq i)):
 Cw 208 #[.agg #[Iq f,Sq ab 12 12,.string t,.slice g m d,Iq up]] W λe w'=>Cf e/\Bq W w':=by have l:ab<W.heap.size:=klt c;have a:Bq W (W.alloc (.cells #[Iq f,Sq ab 12 12,.string t,.slice g m d,Iq up] 176)):=(ac _ _).alloc (ad _) _;have c5:=(a.cell (p:=(aq ab 5)) l).trans c;have k:=(a.cell (p:=(aq ab 6)) l).trans j;go_enter func208,ntmps208;go_wp2_with fail;go_quiet(fail);go_wp2;go_ret;exact⟨⟨_,rfl⟩,below_drewN a _⟩
theorem Gy{w:AT}{g n cap:Nat}(h:uf w g n):∀f k,n<=k+f->k<n->∀U,Bq w U->
 Cw 273 #[Sq g n cap,Iq (k:Nat)] U λe U'=>KC e/\Bq U U'
 |0,k,h1,h2,U,D=>dg
 |f+1,k,h1,h2,U,D=>by
  obtain⟨X,ab,t,kp,m,kc,up,N⟩:=h.2 k h2;have E:Hid (∀i,i<m->∃L O c,kp=some (aq L O)/\(∀W,Bq w W->W.cell? (aq L (O+i))=some (Iq (c:Nat)))/\∀U,Bq w U->Cw 273 #[Sq g n cap,Iq (c:Nat)] U λe U'=>KC e/\Bq U U'):=λi hi=>by obtain⟨L,O,c,e,l1,l2,T⟩:=N.kid i hi;exact⟨L,O,c,e,T,λU D=>Gy h f c dg l2 U D⟩
  obtain⟨c0,c1,c2,c3,c4⟩:=N.c U D;obtain⟨a4,A4⟩:=N.a 4 dg;obtain⟨a5,A5⟩:=N.a 5 dg;obtain⟨a6,A6⟩:=N.a 6 dg;replace A4:=qH A4;replace A5:=qH A5;replace A6:=qH A6;have ze:=N.tl;have zg:=N.ml;have hn:=h.1;have hk:(k:Int)<n:=dg;have hs:=D.size;clear N;obtain⟨V,F⟩:=af (U.alloc (.cells #[Iq X,Sq ab 12 12,.string t,.slice kp m kc,Iq up] 176));have S:Bq U V:=by rw[<-F];exact(ac _ _).alloc (ad _) _
  have P:Hid (∀W,Bq V W->W.cell? (aq U.heap.size 0)=some (Iq X)/\W.cell? (aq U.heap.size 1)=some (Sq ab 12 12)/\W.cell? (aq U.heap.size 2)=some (.string t)/\W.cell? (aq U.heap.size 3)=some (.slice kp m kc)/\W.cell? (aq U.heap.size 4)=some (Iq up)):=λW G=>by
   have l:U.heap.size<V.heap.size:=by rw[<-F,ai];omega
   rw[G.cell (p:=(aq U.heap.size 0)) l,G.cell (p:=(aq U.heap.size 1)) l,G.cell (p:=(aq U.heap.size 2)) l,G.cell (p:=(aq U.heap.size 3)) l,G.cell (p:=(aq U.heap.size 4)) l,<-F];simp[World.cell?_alloc_at]
  obtain⟨Y,v1,v2,Z,v4⟩:=P V (ac _ _);by_cases h5:X=5
  ·subst h5;go_enter func273,ntmps273;go_wp2_with fail;refine(yo t _ ze).mono ?_;rintro e w1 ⟨⟨v,q,rfl,hq,K1⟩,Q⟩;obtain⟨p,pc,rfl,HP⟩:=K1.sl;replace HP:=qH HP;replace Q:=qH (S.trans (Q.mono S.size));clear K1 P E F S c0 c1 c2 c3 c4 Y v1 v2 Z v4;go_wp2;go_loopw[7,9] (λb i wr=>∃(j:Nat) (x:Int),i=Iq j/\b=Iq x/\j<=q/\Bq w1 wr) (λ_ i _=>q-(intOf i).toNat);case atStart=>exact⟨0,0,rfl,rfl,dg,ac _ _⟩
   case round=>
    obtain⟨j,x,rfl,rfl,hj,r⟩:=hrel;by_cases J:j<q
    ·have o:(j:Int)<q:=dg
     obtain⟨pg,rfl,_,hB,HB⟩:=HP dg;obtain⟨_,_,d0,u,rfl,hu⟩:=HB j dg;have d1:=(r.cell (p:=(aq pg j)) hB).trans d0;clear HB d0;go_wp2_with(first|(go_at_call 221;refine(ve u _ dg).mono ?_;rintro e u5 ⟨⟨y,rfl,_⟩,R⟩)|(go_at_call 44;refine(kH _ _ _).mono ?_;rintro e u6 ⟨rfl,C⟩;obtain rfl:=C.symm));exact⟨⟨j+1,_,by go_num,rfl,dg,r.trans (R.mono r.size)⟩,by simp only[intOf];omega⟩
    ·have o:¬(j:Int)<q:=dg
     go_wp2_with(go_at_call 213;refine(O6 _ _).mono ?_;rintro e u6 ⟨⟨y,rfl,hy⟩,C⟩;obtain rfl:=C.symm);go_ret;exact⟨⟨_,rfl,hy⟩,Q.trans (r.mono Q.size)⟩
  ·have e5:(X==5)=false:=by simpa using h5
   go_enter func273,ntmps273;go_wp2_with fail;clear F c0 c1 c2 c3 c4 Y v1 v2 Z v4;have B:=qH S;go_loopw[6,7,10] (λs b i wr=>∃(j:Nat) (x y:Int),i=Iq j/\s=Iq x/\b=Iq y/\j<=m/\Bq V wr) (λ_ _ i _=>m-(intOf i).toNat);case atStart=>exact⟨0,0,0,rfl,rfl,rfl,dg,ac _ _⟩
   case round=>
    obtain⟨j,x,y,rfl,rfl,rfl,hj,r⟩:=hrel;obtain⟨Y,v1,v2,Z,v4⟩:=P wr r;have d:Bq w wr:=D.trans ((B.trans (r.mono B.size)).mono hs);by_cases J:j<m
    ·have o:(j:Int)<m:=dg
     obtain⟨L,O,c,rfl,T,CW⟩:=E j J;have k0:=T wr d;replace CW:=qH CW;clear T;go_wp2_with fail;refine(CW _ d).mono ?_;rintro e u5 ⟨⟨z,rfl,z0,z1⟩,R⟩;have I:=r.trans (R.mono r.size);obtain⟨Y,v1,v2,Z,v4⟩:=P u5 I;have q4:=A4 u5 (d.trans (R.mono d.size));go_wp2_with(go_at_call 44;refine(kH _ _ _).mono ?_;rintro e u6 ⟨rfl,C⟩;obtain rfl:=C.symm);all_goals exact⟨⟨j+1,_,_,by go_num,rfl,rfl,dg,I⟩,by simp only[intOf];omega⟩
    ·have o:¬(j:Int)<m:=dg
     have q5:=A5 wr d;have q6:=A6 wr d;have A:=B.trans (r.mono B.size);go_wp2_with(first|(go_at_call 213;refine(O6 _ _).mono ?_;rintro e u6 ⟨⟨y,rfl,hy⟩,C⟩;obtain rfl:=C.symm)|(go_at_call 208;refine(Ob _ _ _ _ _ _ _ _ q5 q6).mono ?_;rintro e u7 ⟨⟨fr,rfl⟩,b7⟩;replace A:=A.trans (b7.mono A.size)));all_goals go_ret;exact⟨⟨_,rfl,hy⟩,A⟩
def Q9(w:AT)(v:Fd)(n:Nat):Prop:=∃p cap,v=.slice p n cap/\∀k,k<n->∃a b g o,p=some (aq g o)/\g<w.heap.size/\∀W,Bq w W->W.cell? (aq g (o+k*2))=some (Iq a)/\W.cell? (aq g (o+k*2+1))=some (Iq b)
theorem Ki{w:AT}{v:Fd}{n:Nat}(h:Q9 w v n)(t:n<=1099511627776)(id:Int)(W:AT)(l:Bq w W):
 Cw 210 #[v,Iq id] W λe w'=>Cf e/\w'=W:=by
 obtain⟨p,cap,rfl,d⟩:=h;replace d:=qH d;by_cases hid:id=0;all_goals
  try subst hid
  try have j:(id !=0)=true:=by simpa using hid
  go_enter func210,ntmps210;go_wp2;go_loop[5,6] (λs i=>∃(k:Nat) (x:Int),s=Iq x/\i=Iq k/\k<=n) (λ_ i=>n-(intOf i).toNat);case atStart=>exact⟨0,0,rfl,rfl,dg⟩
  case round=>
   obtain⟨k,x,rfl,rfl,r⟩:=hrel;by_cases f:k<n
   ·have c:(k:Int)<n:=dg
    obtain⟨a,b,g,o,rfl,q,H⟩:=d k f;obtain⟨m,c1⟩:=H W l;clear H;go_wp2;all_goals exact⟨⟨k+1,_,rfl,by go_num,dg⟩,by simp only[intOf];omega⟩
   ·have c:¬(k:Int)<n:=dg
    go_wp2;go_ret;exact⟨⟨_,rfl⟩,rfl⟩
def T7(n:Nat)(e:Ending):Prop:=∃x,e=Rw (Iq x)/\-1<=x/\x<n
theorem AZ{w:AT}{g n cap:Nat}(h:uf w g n)(id:Int)(W:AT)(l:Bq w W):
 Cw 43 #[Sq g n cap,Iq id] W λe w'=>T7 n e/\w'=W:=by
 have u:=h.1;have p:=qH h.2;by_cases hid:id=0;all_goals
  try subst hid
  try have o:(id !=0)=true:=by simpa using hid
  go_enter func43,ntmps43;go_wp2;go_loop[5] (λi=>∃k:Nat,i=Iq k/\k<=n) (λi=>n-(intOf i).toNat);case atStart=>exact⟨0,rfl,dg⟩
  case round=>
   obtain⟨k,rfl,s⟩:=hrel;by_cases f:k<n
   ·have d:(k:Int)<n:=dg
    obtain⟨x,ab,t,y,m,v,up,N⟩:=p k f;obtain⟨r,c1,_⟩:=N.c W l;obtain⟨q,j⟩:=N.a 0 dg;have z:=j W l;clear j N;go_wp2;all_goals first
     |exact⟨⟨k+1,by go_num,dg⟩,by simp only[intOf];omega⟩
     |(go_ret;exact⟨⟨_,rfl,dg,dg⟩,rfl⟩)
   ·have d:¬(k:Int)<n:=dg
    go_wp2;go_ret;exact⟨⟨_,rfl,dg,dg⟩,rfl⟩
def Np(e:Ending):Prop:=∃x y z,e=Rw (.agg #[Iq x,Iq y,Iq z])
theorem pC{w:AT}{B:Nat}{t:TypeId}{e f g a c d:Fd}(h:w.heap[B]?=some (.cells #[e,f,g] t (0,0))):
 (((w.setCell (aq B 0) a).setCell (aq B 1) c).setCell (aq B 2) d).heap[B]?=some (.cells #[a,c,d] t (0,0)):=by rw[heap_setCell_same _ _ _ _ _ _ (heap_setCell_same _ _ _ _ _ _ (heap_setCell_same _ _ _ _ _ _ h))];rfl
theorem Tp(F up q:Int)(ab m E:Nat)(t:BY)(G:zze)(W:AT)(h:∀j,j<12->∃x,W.cell? (aq ab j)=some (Iq x)):
 Cw 272 #[.agg #[Iq F,Sq ab 12 12,.string t,.slice G m E,Iq up],Iq q] W λe w'=>Np e/\Bq W w':=by
 have D:prog.follows .mixedOrders=true:=pt;obtain⟨J,z⟩:=h 1 dg;obtain⟨L,C⟩:=h 2 dg;obtain⟨y,s⟩:=h 3 dg;have l:ab<W.heap.size:=klt z;obtain⟨u,i⟩:=af W.heap.size;obtain⟨f,B⟩:=af (u+1);obtain⟨g,k⟩:=af ((W.alloc (.cells #[Iq F,Sq ab 12 12,.string t,.slice G m E,Iq up] 176)).alloc (.cells #[Iq 0,Iq 0,Iq 0] 367));have r:Hid (Bq W g):=by rw[<-k];exact((ac _ _).alloc (ad _) _).alloc At _
 have d:g.heap[f]?=some (.cells #[Iq 0,Iq 0,Iq 0] 367 (0,0)):=by rw[<-k,<-B,<-i];simp only[World.alloc];rw[su,if_pos At]
 have N:g.cell? (aq u 1)=some (Sq ab 12 12):=by rw[<-k,World.cell?_alloc_past _ _ _ (by simp[<-i]),World.cell?_alloc_at _ _ _ _ i.symm];rfl
 have c1:=(r.cell (p:=(aq ab 1)) l).trans z;have c2:=(r.cell (p:=(aq ab 2)) l).trans C;have c3:=(r.cell (p:=(aq ab 3)) l).trans s;have R:g.cell? (aq f 0)=some (Iq 0):=by simp[World.cell?,d]
 have S:g.cell? (aq f 1)=some (Iq 0):=by simp[World.cell?,d]
 have w2:g.cell? (aq f 2)=some (Iq 0):=by simp[World.cell?,d]
 have I:∀j,g.frozen? (aq f j)=false:=λj=>frozen_of_row _ _ _ _ _ d;have v:=qH d;have P:ab≠f:=dg;have Q:u≠f:=dg;have o:Hid (∀a b c,Bq W (((g.setCell (aq f 0) a).setCell (aq f 1) b).setCell (aq f 2) c)):=λa b c=>((r.setCell (by show W.heap.size<=f;omega) _).setCell (by show W.heap.size<=f;omega) _).setCell (by show W.heap.size<=f;omega) _;clear h z C s d;rcases(by omega:y=0\/y≠0)with rfl|s;all_goals
  try have O:(y==0)=false:=by simpa using s
  go_enter func272,ntmps272;go_wp2_with(first|(go_at_call 211;refine(pw _ _ _).mono ?_;rintro e u6 ⟨rfl,A⟩;obtain rfl:=A.symm)|(go_at_call 44;refine(kH _ _ _).mono ?_;rintro e u6 ⟨rfl,A⟩;obtain rfl:=A.symm));all_goals go_region
  all_goals go_wp2;refine bodyPost_ret (results_cell_row rfl _ _ f _ _ _ _ rfl (pC v) underlying367 rfl pt) rfl ?_;exact⟨⟨_,_,_,rfl⟩,(o _ _ _).drew⟩
def xC(n b j:Nat)(v:Fd):Prop:=(j %5=0->∃s:BY,v=.string s/\s.size<=b)/\(j %5≠0->∃x,v=Iq x/\(j %5=4->(x=1->j/5+1<n)/\(x=2->0<j/5)))
structure KK(K M cap W H n b:Nat)(w:AT):Prop where
 c0:w.cell? (aq K 0)=some (Iq W)
 c1:w.cell? (aq K 1)=some (Iq H)
 c2:w.cell? (aq K 2)=some (Sq M n cap)
 sz:1<=W/\W<=400/\1<=H/\H<=400/\n=W*H/\1<=b
 ne:K≠M
 kb:KB w M (n*5) (xC n b)
def gh(K M cap W H n b:Nat)(w w':AT):Prop:=KK K M cap W H n b w'/\w.grownBy w' (some M)
section
variable{K M cap W H n b:Nat} {w w' w2:AT}
theorem gh.set(h:gh K M cap W H n b w w')(o:Nat)(v:Fd)(d:xC n b o v):gh K M cap W H n b w (w'.setCell (aq M o) v):=by
 obtain⟨h,g⟩:=h;have f:∀j,((aq M o):Addr)≠(aq K j):=λj e=>h.ne (by simpa using congrArg Addr.block e.symm);refine⟨⟨?_,?_,?_,h.sz,h.ne,h.kb.set _ _ _ λ_=>d⟩,g.os,g.tape,g.output,by simpa[World.setCell]using g.size,λb c a=>(aH _ _ _ b λe=>a (by rw[e])).trans (g.block b c a)⟩;all_goals rw[b_ _ _ _ _ (f _)]
 ·exact h.c0
 ·exact h.c1
 ·exact h.c2
theorem gh.below(h:gh K M cap W H n b w w')(k:Bq w' w2):gh K M cap W H n b w w2:=by
 obtain⟨h,g⟩:=h;refine⟨⟨?_,?_,?_,h.sz,h.ne,h.kb.below k⟩,k.os.trans g.os,k.tape.trans g.tape,k.output.trans g.output,az g.size k.size,λb a c=>(k.block b (zz006 a g.size)).trans (g.block b a c)⟩;·exact(k.cell (klt h.c0)).trans h.c0
 ·exact(k.cell (klt h.c1)).trans h.c1
 ·exact(k.cell (klt h.c2)).trans h.c2
theorem gh.drew(h:gh K M cap W H n b w w')(q:Nat):gh K M cap W H n b w (w'.drewN q):=h.below (below_drewN (ac _ _) q)
theorem gh.trans(h:gh K M cap W H n b w w')(k:gh K M cap W H n b w' w2):gh K M cap W H n b w w2:=⟨k.1,h.2.trans k.2⟩
theorem KK.refl(h:KK K M cap W H n b w):gh K M cap W H n b w w:=⟨h,World.grownBy.refl _ _⟩
theorem KK.cell(h:KK K M cap W H n b w){i:Nat}(hi:i<n):∃s f g o p,(w.cell? (aq M (i*5))=some (.string s)/\w.cell? (aq M (i*5+1))=some (Iq f)/\w.cell? (aq M (i*5+2))=some (Iq g)/\w.cell? (aq M (i*5+3))=some (Iq o)/\w.cell? (aq M (i*5+4))=some (Iq p))/\Hid (s.size<=b/\(p=1->i+1<n)/\(p=2->0<i)):=by have H:=h.kb.2;obtain⟨_,x,c,P,_⟩:=H (i*5) dg;obtain⟨s,rfl,l⟩:=P dg;obtain⟨_,r,c1,_,a⟩:=H (i*5+1) dg;obtain⟨f,rfl,_⟩:=a dg;obtain⟨_,t,c2,_,P2⟩:=H (i*5+2) dg;obtain⟨g,rfl,_⟩:=P2 dg;obtain⟨_,u,c3,_,d⟩:=H (i*5+3) dg;obtain⟨o,rfl,_⟩:=d dg;obtain⟨_,v,c4,_,j⟩:=H (i*5+4) dg;obtain⟨p,rfl,k⟩:=j dg;obtain⟨m,q⟩:=k dg;exact⟨s,f,g,o,p,⟨c,c1,c2,c3,c4⟩,l,λe=>by have:=m e;omega,λe=>by have:=q e;omega⟩
theorem KK.fz(h:KK K M cap W H n b w)(j:Nat)(a:j<n*5):w.frozen? (aq M j)=false:=(h.kb.2 j a).1
theorem KK.fz5(h:KK K M cap W H n b w){i:Nat}(hi:i<n):w.frozen? (aq M (i*5))=false/\w.frozen? (aq M (i*5+1))=false/\w.frozen? (aq M (i*5+2))=false/\w.frozen? (aq M (i*5+3))=false/\w.frozen? (aq M (i*5+4))=false:=⟨h.fz _ dg,h.fz _ dg,h.fz _ dg,h.fz _ dg,h.fz _ dg⟩
theorem gh.put(h:gh K M cap W H n b w w')(i:Nat)(s:BY)(f g o p:Int)(j:s.size<=b)(c:p=1->i+1<n)(d:p=2->0<i):gh K M cap W H n b w (((((w'.setCell (aq M (i*5)) (.string s)).setCell (aq M (i*5+1)) (Iq f)).setCell (aq M (i*5+2)) (Iq g)).setCell (aq M (i*5+3)) (Iq o)).setCell (aq M (i*5+4)) (Iq p)):=by have a:∀k (x:Int),(k=4->(x=1->i+1<n)/\(x=2->0<i))->0<k->k<5->xC n b (i*5+k) (Iq x):=λk x l m q=>⟨λe=>dg,λ_=>⟨x,rfl,λe=>by have:=l dg;rwa[show(i*5+k)/5=i by omega]⟩⟩;exact((((h.set _ _ ⟨λ_=>⟨s,rfl,j⟩,λe=>dg⟩).set _ _ (a 1 f dg dg dg)).set _ _ (a 2 g dg dg dg)).set _ _ (a 3 o dg dg dg)).set _ _ (a 4 p (λ_=>⟨c,d⟩) dg dg)
theorem KK.nb(h:KK K M cap W H n b w):n<=160000:=by rw[h.sz.2.2.2.2.1];exact iE h.sz.2.1 h.sz.2.2.2.1
theorem KK.lin(h:KK K M cap W H n b w){y x:Nat}(hy:y<H)(a:x<W):y*W+x<n:=by rw[h.sz.2.2.2.2.1,fd W H];have:(y+1)*W<=H*W:=iA _ dg;rw[fj]at this;omega
end
def qv(e:Ending):Prop:=e=Rw (.tuple #[])
section
variable{K M cap W H n b:Nat} {w:AT}
theorem F_(h:KK K M cap W H n b w)(j:Int)(c:0<=j)(l:j<n):Cw 275 #[Pq K,Iq j] w λe w'=>qv e/\gh K M cap W H n b w w':=by
 obtain⟨i,rfl⟩:=cU c;have hi:i<n:=dg;have m:=h.c2;have nb:=h.nb;obtain⟨s,f,g,o,p,⟨d0,d1,d2,d3,d4⟩,_⟩:=h.cell hi;obtain⟨f0,f1,f2,f3,f4⟩:=h.fz5 hi;have k:(i:Int)<(n:Int):=dg;have a:=qH h.refl;have d:=h.sz.2.2.2.2.2;go_enter func275,ntmps275;go_wp2_with fail;go_region;all_goals go_wp2;go_end0;exact⟨rfl,(a.drew 1).put i _ _ _ _ _ d dg dg⟩
theorem N8(h:KK K M cap W H n b w)(i:Nat)(hi:i<n)(x y:Int):Cw 217 #[Pq K,Iq i,Iq x,Iq y] w λe w'=>qv e/\gh K M cap W H n b w w':=by
 have z:=h.c2;have nb:=h.nb;obtain⟨s,f,g,o,p,⟨_,_,_,_,d4⟩,l⟩:=h.cell hi;have v:(i:Int)<(n:Int):=dg;have m:=qH h.refl;have k:=qH (F_ h);clear h;rcases(by omega:p=1\/p=2\/(p≠1/\p≠2))with rfl|rfl|⟨B,q⟩
 ·have j:=qH<|k (i+1) dg (by have:=l.2.1 rfl;omega);clear l k;go_enter func217,ntmps217;go_wp2_with fail;all_goals try(go_end0;exact⟨rfl,m⟩)
  all_goals
   refine j.mono ?_;rintro e D ⟨rfl,a⟩;have A:=a.1.c2;obtain⟨_,_,_,_,r,⟨_,_,_,_,t⟩,d⟩:=a.1.cell hi;have c:=qH (F_ a.1);replace a:=qH a;clear z d4 j m;rcases(by omega:r=2\/r≠2)with rfl|q;·have j:=qH<|c (i-1) (by have:=d.2.2 rfl;omega) dg;clear c d;go_wp2_with fail;all_goals first
     |(go_end0;exact⟨rfl,a⟩)
     |(refine j.mono ?_;rintro e w2 ⟨rfl,P2⟩;go_wp2;go_end0;exact⟨rfl,a.trans P2⟩)
   ·have u:(r==2)=false:=by simpa using q
    clear c d;go_wp2_with fail;go_end0;exact⟨rfl,a⟩
 ·have j:=qH<|k (i-1) (by have:=l.2.2 rfl;omega) dg;clear l k;go_enter func217,ntmps217;go_wp2_with fail;all_goals first
   |(go_end0;exact⟨rfl,m⟩)
   |(refine j.mono ?_;rintro e w2 ⟨rfl,P2⟩;go_wp2;go_end0;exact⟨rfl,P2⟩)
 ·have C:(p==1)=false:=by simpa using B
  have u:(p==2)=false:=by simpa using q
  clear l k;go_enter func217,ntmps217;go_wp2;go_end0;exact⟨rfl,m⟩
end
theorem Qx(N up x y:Int)(ab m L:Nat)(t:BY)(O:zze)(W:AT)(U:t.size<=4000){E:Int}(A:W.cell? (aq ab 8)=some (Iq E)):
 Cw 138 #[.agg #[Iq N,Sq ab 12 12,.string t,.slice O m L,Iq up],Iq x,Iq y] W λe w'=>KV W 9 1 4001 (Pg 80004) e w'/\Bq W w':=by
 obtain⟨i0,hi,B,C,D⟩:=info_parts QB;obtain⟨V,F⟩:=af (W.alloc (.cells #[Iq N,Sq ab 12 12,.string t,.slice O m L,Iq up] 176));have o:Bq W V:=by rw[<-F];exact(ac _ _).alloc (ad _) _
 have J:V.heap[W.heap.size]?=some (.cells #[Iq N,Sq ab 12 12,.string t,.slice O m L,Iq up] 176 (0,0)):=by rw[<-F];exact heap_alloc_new _ _
 have v1:V.cell? (aq W.heap.size 1)=some (Sq ab 12 12):=cell_of_row _ _ 1 _ _ _ J;have v2:V.cell? (aq W.heap.size 2)=some (.string t):=cell_of_row _ _ 2 _ _ _ J;have R:=(o.cell (klt A)).trans A;clear J A;by_cases hx:x<1;·go_enter func138,ntmps138;go_wp2;go_ret;exact⟨⟨_,0,rfl,dg,KR.nil _ _ _ _ _⟩,o⟩
 rcases(by omega:E=1\/E≠1)with rfl|A
 ·go_enter func138,ntmps138;go_wp2_with fail;refine(Gg t x _ U).mono ?_;rintro e l ⟨⟨v,q,rfl,hq,u⟩,z⟩;obtain⟨p,pc,rfl,f⟩:=u.sl;replace f:=qH f;have a:=qH (o.trans (z.mono o.size));clear u z v1 v2 R F;go_wp2;go_loopw[7,9] (λv i wr=>∃j:Nat,i=Iq j/\j<=q/\KR wr l.heap.size 9 1 v j (Pg 80004)/\Bq l wr) (λ_ i _=>q-(intOf i).toNat);case atStart=>exact⟨0,rfl,dg,KR.nil _ _ _ _ _,ac _ _⟩
  case round=>
   obtain⟨j,rfl,hj,g,d⟩:=hrel;by_cases I:j<q
   ·have c:(j:Int)<q:=dg
    obtain⟨P,rfl,_,h,r⟩:=f dg;obtain⟨_,_,d0,hd⟩:=r (j*5) dg;obtain⟨s,rfl,S⟩:=hd.1 dg;have d1:=(d.cell (p:=(aq P (j*5))) h).trans d0;clear r d0 hd;go_wp2_with(at_builtin;refine yp (W0:=l) hi B C D g d [.string s] rfl _ _ rfl underlying171 ⟨rfl,by decide,by decide⟩ rfl rfl rfl ⟨rfl,rfl⟩ dg (Ot ⟨_,rfl,dg⟩) ?_;intro v' w6 K3 k _);all_goals first
     |exact⟨⟨j+1,by go_num,dg,K3,k⟩,by simp only[intOf];omega⟩
     |(go_ret;exact⟨⟨_,j,rfl,dg,g.base a.size⟩,a.trans (d.mono a.size)⟩)
   ·have c:¬(j:Int)<q:=dg
    go_wp2;go_ret;exact⟨⟨_,j,rfl,dg,g.base a.size⟩,a.trans (d.mono a.size)⟩
 ·have e8:(E==1)=false:=by simpa using A
  go_enter func138,ntmps138;go_wp2_with fail;refine(yo t _ U).mono ?_;rintro e l ⟨⟨v,q,rfl,hq,u⟩,z⟩;obtain⟨p,pc,rfl,f⟩:=u.sl;replace f:=qH f;have a:=qH (o.trans (z.mono o.size));clear u z v1 v2 R F;go_wp2;go_loopw[7,11] (λv i wr=>∃j:Nat,i=Iq j/\j<=q/\KR wr l.heap.size 9 1 v j (Pg 80004)/\Bq l wr) (λ_ i _=>q-(intOf i).toNat);case atStart=>exact⟨0,rfl,dg,KR.nil _ _ _ _ _,ac _ _⟩
  case round=>
   obtain⟨j,rfl,hj,g,d⟩:=hrel;by_cases I:j<q
   ·have c:(j:Int)<q:=dg
    obtain⟨P,rfl,_,h,r⟩:=f dg;obtain⟨_,_,d0,s,rfl,S⟩:=r j dg;have d1:=(d.cell (p:=(aq P j)) h).trans d0;clear r d0;go_wp2_with(first
     |(go_at_call 220;refine(Tj s _ _ S).mono ?_;rintro e w5 ⟨⟨T,rfl,Z⟩,Q⟩;have G:=d.trans (Q.mono d.size);have X:=g.below Q)
     |(at_builtin;refine yp (W0:=l) hi B C D X G [.string T] rfl _ _ rfl underlying171 ⟨rfl,by decide,by decide⟩ rfl rfl rfl ⟨rfl,rfl⟩ dg (Ot ⟨_,rfl,Z⟩) ?_;intro v' w6 K3 k _));all_goals first
     |exact⟨⟨j+1,by go_num,dg,K3,k⟩,by simp only[intOf];omega⟩
     |(go_ret;exact⟨⟨_,j,rfl,dg,g.base a.size⟩,a.trans (d.mono a.size)⟩)
   ·have c:¬(j:Int)<q:=dg
    go_wp2;go_ret;exact⟨⟨_,j,rfl,dg,g.base a.size⟩,a.trans (d.mono a.size)⟩
theorem Qo(a b c d x y:Int)(W:AT):Cw 135 #[.agg #[Iq a,Iq b,Iq c,Iq d],Iq x,Iq y] W λe w'=>Cf e/\Bq W w':=by have f:Hid (Bq W (W.alloc (.cells #[Iq a,Iq b,Iq c,Iq d] 123))):=(ac _ _).alloc (ad _) _;obtain⟨p,g⟩:=af (x==a);obtain⟨q,h⟩:=af (y==b);obtain⟨r,i⟩:=af (x==wrap64 (wrap64 (a+c)-1));obtain⟨s,j⟩:=af (y==wrap64 (wrap64 (b+d)-1));cases p<;>cases q<;>cases r<;>cases s;all_goals go_enter func135,ntmps135;go_wp2;go_ret;exact⟨⟨_,rfl⟩,f⟩
def RO(e:Ending):Prop:=∃c,e=Rw (.bool c)
theorem Qm(f up:Int)(ab m g:Nat)(t:BY)(h:zze)(a b c d:Int)(W:AT){i:Int}(o:W.cell? (aq ab 6)=some (Iq i)):Cw 133 #[.agg #[Iq f,Sq ab 12 12,.string t,.slice h m g,Iq up],.agg #[Iq a,Iq b,Iq c,Iq d]] W λe w'=>RO e/\Bq W w':=by
 have j:Hid (Bq W ((W.alloc (.cells #[Iq f,Sq ab 12 12,.string t,.slice h m g,Iq up] 176)).alloc (.cells #[Iq a,Iq b,Iq c,Iq d] 123))):=((ac _ _).alloc (ad _) _).alloc At _;have l:ab<W.heap.size:=klt o;have q:ab≠W.heap.size:=dg;have r:ab≠W.heap.size+1:=dg;rcases(by omega:f=3\/f≠3)with rfl|k;all_goals
  try have p:(f==3)=false:=by simpa using k
  go_enter func133,ntmps133;go_wp2;all_goals go_ret;exact⟨⟨_,rfl⟩,j⟩
