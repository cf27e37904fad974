import Derived.Test.YtehgehanbnkdiaaGreatDoorQ03
import Derived.Test.YtehgehanbnkdiaaGreatDoorQ17
set_option linter.all false
set_option maxRecDepth 100000
set_option maxHeartbeats 16000000
namespace Go.Proofs.YtehgehanbnkdiaaGreatDoor
open Go.RowKit Go.Proofs.Tryz
def Nr(j:Nat)(v:Fd):Prop:=(j %2=0->∃s,v=.string s/\s.size<=20)/\(j %2=1->∃x,v=Iq x/\0<=x/\x<=2)
def Sy{n:Nat}{s:BY}{x:Int}(h:s.size<=20)(c:0<=x/\x<=2):∀j u,[Value.string s,Iq x][j]?=some u->Nr (n*2+j) u:=λj u a=>by
 match j,a with
 |0,a=>simp at a;subst a;exact⟨λ_=>⟨_,rfl,h⟩,λh=>dg⟩
 |1,a=>simp at a;subst a;exact⟨λh=>dg,λ_=>⟨_,rfl,c⟩⟩
def Hg:(prog.info? 236).map (λi=>(i.zero,i.size,i.bytes))=some (some (.agg #[.string ⟨#[]⟩,Iq 0]),2,24):=pt
def pK(r:Int)(w:AT):Cw 137 #[Iq r] w λe w'=>(∃s:BY,e=Rw (.string s)/\s.size<=4)/\Bq w w':=
 (nM r w).mono λe w' ⟨a,c⟩=>⟨⟨_,a,by have:=gF r;simpa[ByteArray.size]using this⟩,c⟩
def jN(s:BY)(w:AT)(hs:s.size<=1099511627776):
 Cw 139 #[.string s] w λe w'=>KV w 236 2 s.size Nr e w'/\Bq w w':=by
 obtain⟨i0,hi,k,l,o⟩:=info_parts Hg;go_enter func139,ntmps139;go_wp2_with fail;refine(Br s _ hs).mono ?_;rintro e E ⟨⟨v,n,rfl,hn,_,B⟩,O⟩;obtain⟨p,cap,rfl,HL⟩:=B.sl;replace HL:=qH HL;replace O:=qH O;clear B;go_wp2;go_loopw[4,5] (λv i wr=>∃(z:Int) (m:Nat),i=Iq z/\(m:Int)<=z/\z<=n/\KR wr E.heap.size 236 2 v m Nr/\Bq E wr) (λ_ i _=>n-(intOf i).toNat);.exact⟨0,0,rfl,dg,dg,KR.nil _ _ _ _ _,Ok⟩
 obtain⟨z,m,rfl,hm,hj,B,a⟩:=hrel;obtain⟨j,rfl⟩:=db (by omega:0<=z);by_cases zi:j<n
 .have R:(j:Int)<n:=dg;obtain⟨g,rfl,hg,HG⟩:=HL dg;have HC:Hid (∀i,i<n->∃x,∀W,Bq E W->W.cell? (aq g i)=some (Iq x)):=λi hi=>by obtain⟨_,_,h2,x,rfl⟩:=HG.2 i dg;exact⟨x,λW hW=>(hW.cell (p:=(aq g i)) HG.1).trans h2⟩
  obtain⟨r,I⟩:=HC j zi;replace I:=qH I;have c0:=I wr a;clear HG;by_cases C:r=10
  .subst C;go_wp2_with(at_builtin;refine yK (W0:=E) hi k l o B a [.string ⟨#[10]⟩,Iq 0] rfl _ _ rfl underlying238 ⟨rfl,by decide,by decide⟩ rfl rfl rfl ⟨rfl,rfl⟩ dg (Sy (by decide) (by decide)) ?_);intro v' w6 K2 zg _;go_wp2;go_roundw;.exact⟨_,m+1,rfl,dg,dg,K2,zg⟩
   grind[intOf]
  .have zm:(r==10)=false:=by simpa using C
   have zk:=Ju r;have J:=qH (ld r);obtain⟨F,D⟩:=af (mY r);rw[D]at zk J;have ze:=qH D;clear D;have zh:F=0\/(F==0)=false:=by
    by_cases h:F=0;.omega
    .grind
   rcases zh with rfl|h0;all_goals
    go_wp2_with fail;refine Ut (J _) ?_;rintro w2 b2;have U:=a.trans (b2.mono a.size);have c1:=I w2 U;go_wp2_with fail;refine(pK _ _).mono ?_;rintro e w3 ⟨⟨t,rfl,ht⟩,b3⟩;have V:=U.trans (b3.mono U.size);have K3:=qH ((B.below b2).below b3);clear b2 b3 U c1 c0 B a;go_wp2;go_loopw[5,7,8] (λi t m wr=>∃(q:Nat) (T:BY) (c:Int),i=Iq ((q:Int)-1)/\t=.string T/\m=Iq c/\0<=c/\c<=q/\(q=j/\mY r=0\/j<q)/\q<=n/\T.size<=4+4*(min c 4).toNat/\Bq w3 wr) (λi _ _ _=>n-(1+intOf i).toNat);.first|exact⟨j,_,0,rfl,rfl,rfl,dg,dg,.inl ⟨rfl,ze⟩,dg,by decide,Ok⟩|exact⟨j+1,_,0,by go_num,rfl,rfl,dg,dg,.inr dg,dg,dg,Ok⟩
    obtain⟨q,T,c,rfl,rfl,rfl,c0,c1,X,q2,hT,a⟩:=hrel;have zn:j<=q:=dg;replace X:=qH X;have y:=V.trans (a.mono V.size);by_cases hq:q<n
    .have zj:(q:Int)<n:=dg;obtain⟨x,Y⟩:=HC q hq;replace Y:=qH Y;have d0:=Y wr y;have HJ:Hid (q=j->x=r):=λe=>by subst e;have:=I wr y;rw[d0]at this;simpa using this
     by_cases S:x=10
     .have Q:=X.resolve_left λe=>C ((HJ e.1).symm.trans S);have L:=K3.below a;have zl:(x !=10)=false:=by simpa using S
      clear S;go_wp2_with(at_builtin;refine yK (W0:=E) hi k l o L y [.string T,Iq _] rfl _ _ rfl underlying238 ⟨rfl,by decide,by decide⟩ rfl rfl rfl ⟨rfl,rfl⟩ dg (Sy dg dg) ?_;intro v' w6 N G _);exact⟨⟨_,m+1,rfl,dg,dg,N,G⟩,by simp only[intOf];omega⟩
     .have zl:(x !=10)=true:=by simpa using S
      have A:=qH (ld x);obtain⟨vx,f⟩:=af (mY x);rw[f]at A;replace f:=qH f;clear S;by_cases Z:vx=0
      .subst Z;go_wp2_with fail;refine Ut (A _) ?_;rintro w5 P;have d:=a.trans (P.mono a.size);have d5:=Y w5 (V.trans (d.mono V.size));clear a P;by_cases h4:c<4;.go_wp2_with(go_at_call 137;refine(pK _ _).mono ?_;rintro e w6 ⟨⟨u,rfl,hu⟩,b6⟩;replace d:=d.trans (b6.mono d.size));exact⟨⟨q+1,T++u,c+1,by go_num,rfl,rfl,dg,dg,.inr dg,dg,by rw[kG];omega,d⟩,by simp only[intOf];omega⟩
       .go_wp2;exact⟨⟨q+1,T,c+1,by go_num,rfl,rfl,dg,dg,.inr dg,dg,dg,d⟩,by simp only[intOf];omega⟩
      .have zo:(vx==0)=false:=by simpa using Z
       have Q:=X.resolve_left λe=>Z (by rw[<-f.out,HJ e.1];exact e.2);clear Z;go_wp2_with fail;refine Ut (A _) ?_;rintro w5 P;replace y:=y.trans (P.mono y.size);have L:=(K3.below a).below P;go_wp2_with(at_builtin;refine yK (W0:=E) hi k l o L y [.string T,Iq _] rfl _ _ rfl underlying238 ⟨rfl,by decide,by decide⟩ rfl rfl rfl ⟨rfl,rfl⟩ dg (Sy dg dg) ?_;intro v' w6 N G _);exact⟨⟨_,m+1,rfl,dg,dg,N,G⟩,by simp only[intOf];omega⟩
    .have zj:¬(q:Int)<n:=dg;have Q:j<q:=dg;have L:=K3.below a;go_wp2_with(at_builtin;refine yK (W0:=E) hi k l o L y [.string T,Iq _] rfl _ _ rfl underlying238 ⟨rfl,by decide,by decide⟩ rfl rfl rfl ⟨rfl,rfl⟩ dg (Sy dg dg) ?_;intro v' w6 N G _);exact⟨⟨_,m+1,rfl,dg,dg,N,G⟩,by simp only[intOf];omega⟩
 .have R:¬(j:Int)<n:=dg;go_wp2;go_ret;exact⟨⟨_,m,rfl,dg,B.base O.size⟩,O.trans (a.mono O.size)⟩
def NY{W:AT}{g n cap:Nat}(h:KB W g (n*2) Nr)(d:n<=cap)(q:n<=1000000):∃S X,KQ W (Sq g n cap) n S X:=by
 obtain⟨f,l⟩:=h;have hS:∀k,∃s:BY,k<n->s.size<=20/\W.cell? (aq g (k*2))=some (.string s):=λk=>by
  by_cases c:k<n;.obtain⟨_,_,e,i,_⟩:=l (k*2) dg;obtain⟨s,rfl,j⟩:=i dg;exact⟨s,λ_=>⟨j,e⟩⟩
  .exact⟨⟨#[]⟩,λh=>absurd h c⟩
 have o:∀k,∃x:Int,k<n->(0<=x/\x<=2)/\W.cell? (aq g (k*2+1))=some (Iq x):=λk=>by
  by_cases c:k<n;.obtain⟨_,_,e,_,i⟩:=l (k*2+1) dg;obtain⟨s,rfl,j⟩:=i dg;exact⟨s,λ_=>⟨j,e⟩⟩
  .exact⟨0,λh=>absurd h c⟩
 refine⟨λk=>(hS k).choose,λk=>(o k).choose,q,_,_,d,rfl,λk c=>?_⟩;have a:=(hS k).choose_spec c;have b:=(o k).choose_spec c;refine⟨⟨a.1,b.1⟩,g,0,rfl,f,λU m=>?_⟩;rw[b_,m.cell (p:=(aq g _)) f,m.cell (p:=(aq g _)) f];exact⟨a.2,b.2⟩
def Ii{W:AT}{B n cap s:Nat}{p:zze}{e:TypeId}{P:Nat->Fd->Prop}(h:KR W B e s (.slice p n cap) n P):n<=cap:=by
 obtain⟨f,h,_⟩:=h;rcases h.2 with⟨e,a⟩|⟨g,c,_,e,_,_,d,_⟩;.omega
 .have:=(by simpa using e:p=_/\cap=c).2;omega
def NZ{W:AT}{B n cap:Nat}{p:zze}(h:KR W B 236 2 (.slice p n cap) n Nr)(d:n<=1000000):∃S X,KQ W (.slice p n cap) n S X:=by
 have a:=Ii h;by_cases f:0<n
 .obtain⟨g,c,e,_,i⟩:=h.kb f;obtain⟨rfl,rfl⟩:p=some (aq g 0)/\cap=c:=by simpa using e
  exact NY i a d
 .exact⟨λ_=>⟨#[]⟩,λ_=>0,d,_,_,a,rfl,λk j=>dg⟩
def O5(x:Int)(W:AT):Cw 276 #[.slice none 0 0,Iq 0,Iq x] W λe w'=>S3 0 0 e/\Bq W w':=by
 have N:prog.follows .mixedOrders=true:=pt;have u:Hid (∀w,KQ w (.slice none 0 0) 0 (λ_=>⟨#[]⟩) (λ_=>0)):=λw=>⟨dg,_,_,LE,rfl,λk T=>dg⟩;have J:Hid (∀U,Cw 278 #[.slice none 0 0] U λe w2=>e=Rw (.string ⟨#[]⟩)/\w2=U):=λU=>vF (u U) U Ok;have L:Hid (∀U,Cw 277 #[.slice none 0 0] U λe w2=>e=Rw (Iq 0)/\w2=U):=λU=>vG (u U) U Ok;have t:Bq W (W.alloc (.cells #[.string ⟨#[]⟩,Iq 0,Iq 0,Iq 0,Iq 0] 309)):=No;go_enter func276,ntmps276;go_wp2_with fail;refine(OZ (u _) x _ Ok).mono ?_;rintro e s ⟨⟨m,rfl,V,_⟩,rfl⟩;obtain rfl:m=0:=dg;obtain⟨s,d⟩:=af (W.alloc (.cells #[.string ⟨#[]⟩,Iq 0,Iq 0,Iq 0,Iq 0] 309));rw[d]at t|-;have D:Hid (s.heap[W.heap.size]?=some (.cells #[.string ⟨#[]⟩,Iq 0,Iq 0,Iq 0,Iq 0] 309 (0,0))):=qH<|by rw[<-d];simp only[World.alloc];rw[sL,if_pos rfl]
 have A:W.heap.size<s.heap.size:=by rw[<-d,ai];omega
 clear d;go_wp2_with fail;go_cut[10]from 12 to 32 (λp I=>∃B,p=Pq B/\s.heap.size<=B/\I.heap[B]?=some (.cells #[.string ⟨#[]⟩,Iq 0,Iq 0,Iq 0,Iq 0] 309 (0,0))/\Bq s I)
 .go_region_with(first|(go_at_call 278;refine Ut (J _) ?_;rintro O rfl)|(go_at_call 277;refine Ut (L _) ?_;rintro O rfl));all_goals(go_wp2_with fail)
  all_goals go_meet
  all_goals exact⟨_,rfl,LE,by simp only[World.drew,World.alloc];rw[sL,if_pos rfl],No.drew⟩
 obtain⟨B,rfl,S,a,f⟩:=hcut;have o:B≠W.heap.size:=dg;have c:=(f.block _ A).trans D;have z:=qH (t.trans (f.mono t.size));have q0:wc.cell? (aq B 0)=some (.string ⟨#[]⟩):=by simp[World.cell?,a]
 have q1:wc.cell? (aq B 1)=some (Iq 0):=by simp[World.cell?,a]
 have q2:wc.cell? (aq B 2)=some (Iq 0):=by simp[World.cell?,a]
 have q3:wc.cell? (aq B 3)=some (Iq 0):=by simp[World.cell?,a]
 have q4:wc.cell? (aq B 4)=some (Iq 0):=by simp[World.cell?,a]
 have Q:∀j,wc.frozen? (aq B j)=false:=λj=>frozen_of_row _ _ _ _ _ a;have q:W.heap.size<=B:=dg;obtain⟨R,y⟩:=af W.heap.size;have i:Hid (R=W.heap.size):=y.symm;rw[y]at c o q|-;have X:wc.cell? (aq R 0)=some (.string ⟨#[]⟩):=by simp[World.cell?,c]
 have Y:wc.cell? (aq R 1)=some (Iq 0):=by simp[World.cell?,c]
 have Z:wc.cell? (aq R 2)=some (Iq 0):=by simp[World.cell?,c]
 have p3:wc.cell? (aq R 3)=some (Iq 0):=by simp[World.cell?,c]
 have p4:wc.cell? (aq R 4)=some (Iq 0):=by simp[World.cell?,c]
 have P:∀j,wc.frozen? (aq R j)=false:=λj=>frozen_of_row _ _ _ _ _ c;have g:Hid (∀(C:AT) (E v1 v2 F G:Fd),Bq W C->Bq W (((((C.setCell (aq R 0) E).setCell (aq R 1) v1).setCell (aq R 2) v2).setCell (aq R 3) F).setCell (aq R 4) G)):=λC E v1 v2 F G h=>by have r:∀j,W.heap.size<=((aq R j):Addr).block:=λj=>xI i.out.symm;exact((((h.setCell (r 0) _).setCell (r 1) _).setCell (r 2) _).setCell (r 3) _).setCell (r 4) _
 have l:Hid (∀v,(wc.setCell (aq B 4) v).heap[R]?=some (.cells #[.string ⟨#[]⟩,Iq 0,Iq 0,Iq 0,Iq 0] 309 (0,0))/\Bq W (wc.setCell (aq B 4) v)):=λv=>⟨by rw[heap_setCell_other _ _ _ _ (λe=>o e.symm)];exact c,z.setCell (by rw[<-i.out];exact q) _⟩;clear a c D f y t;go_wp2;refine bodyPost_ret (yO rfl _ _ _ R _ rfl (run_loadVar_row _ _ _ _ _ _ _ (pP (l _).1) underlying309 rfl pt)) rfl ?_;exact⟨⟨_,_,_,_,3,0,rfl,by decide,.inl rfl⟩,g _ _ _ _ _ _ (l _).2⟩
def S1(j:Nat)(v:Fd):Prop:=(j %5=0->∃s,v=.string s/\s.size<=80000)/\(j %5≠0->∃x,v=Iq x)
def ZP{n:Nat}{s:BY}{a b c d:Int}(h:s.size<=80000):∀j u,[Value.string s,Iq a,Iq b,Iq c,Iq d][j]?=some u->S1 (n*5+j) u:=λj u e=>by
 match j,e with
 |0,e=>simp at e;subst e;exact⟨λ_=>⟨_,rfl,h⟩,λh=>dg⟩
 |1,e=>simp at e;subst e;exact⟨λh=>dg,λ_=>⟨_,rfl⟩⟩
 |2,e=>simp at e;subst e;exact⟨λh=>dg,λ_=>⟨_,rfl⟩⟩
 |3,e=>simp at e;subst e;exact⟨λh=>dg,λ_=>⟨_,rfl⟩⟩
 |4,e=>simp at e;subst e;exact⟨λh=>dg,λ_=>⟨_,rfl⟩⟩
def O6:(prog.info? 309).map (λi=>(i.zero,i.size,i.bytes))=some (some (.agg #[.string ⟨#[]⟩,Iq 0,Iq 0,Iq 0,Iq 0]),5,48):=pt
def rH:Fd->Nat
 |.bool true=>1
 |_=>0
def Hj(s:BY)(x:Int)(w:AT)(hs:s.size<=4000):
 Cw 218 #[.string s,Iq x] w λe w'=>KV w 309 5 4001 S1 e w'/\Bq w w':=by
 obtain⟨i0,hi,E,F,G⟩:=info_parts O6;by_cases hx:x<1;.go_enter func218,ntmps218;go_wp2;go_ret;exact⟨⟨_,0,rfl,dg,KR.nil _ _ _ _ _⟩,Ok⟩
 go_enter func218,ntmps218;go_wp2_with fail;refine(jN s _ dg).mono ?_;rintro e A ⟨⟨v,n,rfl,hn,d⟩,i⟩;have CL:Hid (∀a,a<=n->∀W,Bq A W->Cw 276 #[v,Iq (a:Nat),Iq x] W λe w'=>S3 n a e/\Bq W w'):=by
  obtain⟨p,cap,rfl,_⟩:=d.sl;obtain⟨S,X,V⟩:=NZ d dg;match p with
  |some ⟨g,o,none⟩=>exact λa N W L=>Rm V dg a N x dg W L
  |some ⟨g,o,some z⟩=>obtain⟨Z,h,_⟩:=d;rcases h.2 with⟨e,h0⟩|⟨g,c,_,e,_⟩<;>simp at e
  |none=>
   obtain⟨Z,h,_⟩:=d;rcases h.2 with⟨e,rfl⟩|⟨g,c,_,e,_⟩;.obtain rfl:cap=0:=rn;intro a N W L;obtain rfl:a=0:=dg;exact O5 x W
   grind
 replace i:=qH i;clear d;go_wp2_with fail;go_loopw[6,7,8] (λv a b wr=>∃(z m:Nat) (c:Bool),a=Iq z/\b=.bool c/\(c=true->z<=n/\m<=z)/\m<=4001/\KR wr A.heap.size 309 5 v m S1/\Bq A wr) (λ_ a b _=>rH b*(n+1-(intOf a).toNat));.exact⟨0,0,true,rfl,rfl,λ_=>⟨dg,dg⟩,dg,KR.nil _ _ _ _ _,Ok⟩
 obtain⟨z,m,c,rfl,rfl,t,U,B,u⟩:=hrel;cases c;.go_wp2;go_ret;exact⟨⟨_,m,rfl,U,B.base i.size⟩,i.trans (u.mono i.size)⟩
 .obtain⟨P,h2⟩:=t rfl;clear t;go_wp2_with fail;refine(CL z P _ u).mono ?_;rintro e O ⟨⟨T,p,q,r,f,y,rfl,Q,hy⟩,C⟩;have j:=u.trans (C.mono u.size);have k:=j.alloc j.size (.cells #[.string T,Iq p,Iq q,Iq r,Iq f] 309);have I:=(B.below C).below ((ac _ O).alloc LE (.cells #[.string T,Iq p,Iq q,Iq r,Iq f] 309));go_wp2_with(at_builtin;refine yK (W0:=A) hi E F G I k [.string T,Iq p,Iq q,Iq r,Iq f] rfl _ _ rfl underlying306 ⟨rfl,by decide,by decide⟩ rfl rfl At ⟨rfl,rfl⟩ dg (ZP Q) ?_);intro v' Y J l t;have cx:Y.cell? ⟨O.heap.size,4,none⟩=some (Iq f):=by rw[aQ (t _ At ((B.below C).own LE)),World.cell?_alloc_at _ _ _ _ rfl];rfl
  clear t I k;by_cases D:f=3;.subst D;go_wp2;exact⟨⟨y,m+1,false,rfl,rfl,λh=>by simp at h,dg,J,l⟩,by simp only[rH,intOf];omega⟩
  .have R:(f !=3)=true:=by simpa using D
   obtain⟨y1,y2⟩:=hy.resolve_left D;go_wp2;exact⟨⟨y,m+1,true,rfl,rfl,λ_=>⟨y2,dg⟩,dg,J,l⟩,by simp only[rH,intOf];omega⟩
def KU(a b:Int)(e:Ending):Prop:=∃x,e=Rw (Iq x)/\a<=x/\x<=b
def vA(s:BY)(w:AT)(h:s.size<=90000):
 Cw 221 #[.string s] w λe w'=>KU 0 180000 e/\Bq w w':=by go_enter func221,ntmps221;go_wp2_with fail;refine(jN s _ dg).mono ?_;rintro e i ⟨⟨v,n,rfl,g,c⟩,d⟩;obtain⟨p,cap,rfl,_⟩:=c.sl;obtain⟨S,X,a⟩:=NZ c dg;have f:=Jg (X:=X) (k:=n) (by obtain⟨_,_,_,_,_,H⟩:=a;grind);replace a:=qH a;go_wp2_with fail;refine Ut (vG a _ Ok) ?_;rintro w2 rfl;go_wp2;go_ret;exact⟨⟨_,rfl,dg,dg⟩,d⟩
def Qh(b:Nat)(_:Nat)(v:Fd):Prop:=∃s:BY,v=.string s/\s.size<=b
def Ru:(prog.info? 9).map (λi=>(i.zero,i.size,i.bytes))=some (some (.string ⟨#[]⟩),1,16):=pt
def yJ(s:BY)(w:AT)(B:s.size<=4000):
 Cw 219 #[.string s] w λe w'=>KV w 9 1 4001 (Qh 4000) e w'/\Bq w w':=by
 obtain⟨C,hi,k,l,o⟩:=info_parts Ru;go_enter func219,ntmps219;go_wp2;obtain⟨n,A⟩:=af s.size;go_loopw[3,4,5] (λv f i wr=>∃a j m:Nat,i=Iq j/\f=Iq a/\j<=n+1/\a<=j/\m<=j/\KR wr w.heap.size 9 1 v m (Qh 4000)/\Bq w wr) (λ_ _ i _=>n+1-(intOf i).toNat);.exact⟨0,0,0,rfl,rfl,dg,dg,dg,KR.nil _ _ _ _ _,Ok⟩
 obtain⟨a,j,m,rfl,rfl,y,x,z,c,d⟩:=hrel;rcases(by omega:j=n+1\/j=n\/j<n)with rfl|rfl|r;.have q:¬((n+1:Nat):Int)<=s.size:=dg;go_wp2;go_ret;exact⟨⟨_,m,rfl,dg,c⟩,d⟩
 all_goals
  have q:(j:Int)<=s.size:=dg;have h:(s.extract a j).size<=4000:=by rw[nW];omega
  try have u:(j:Int)<s.size:=dg
  go_wp2_with(at_builtin;refine yK (W0:=w) hi k l o c d [.string (s.extract a j)] rfl _ _ rfl underlying171 ⟨rfl,by decide,by decide⟩ rfl rfl rfl ⟨rfl,rfl⟩ dg (Pe ⟨_,rfl,h⟩) ?_;intro D E p g _);all_goals first
   |exact⟨⟨j+1,j+1,m+1,by go_num,by go_num,dg,dg,dg,p,g⟩,by simp only[intOf];omega⟩
   |exact⟨⟨a,j+1,m,by go_num,rfl,dg,dg,dg,c,d⟩,by simp only[intOf];omega⟩
def pJ(a b:Int)(w:AT):Cw 211 #[Iq a,Iq b] w λe w'=>e=Rw (Iq (min a b))/\w'=w:=by
 have c:Hid (∀z,z=min a b->Ending.returned (Iq z)=Rw (Iq (min a b))):=λz h=>by rw[h]
 go_enter func211,ntmps211;go_wp2;all_goals go_ret;exact⟨c _ dg,rfl⟩
def kZ(a b:Int)(w:AT):Cw 44 #[Iq a,Iq b] w λe w'=>e=Rw (Iq (max a b))/\w'=w:=by
 have c:Hid (∀z,z=max a b->Ending.returned (Iq z)=Rw (Iq (max a b))):=λz h=>by rw[h]
 go_enter func44,ntmps44;go_wp2;all_goals go_ret;exact⟨c _ dg,rfl⟩
def OR(t:BY)(x h:Int)(w:AT)(u:t.size<=90000):
 Cw 140 #[.string t,Iq x,Iq h] w λe w'=>KS 190000 e/\Bq w w':=by
 go_enter func140,ntmps140;go_wp2_with fail;refine(vA t _ u).mono ?_;rintro e D ⟨⟨c,rfl,z,c1⟩,a⟩;go_wp2_with fail;refine Ut (pJ _ _ _) ?_;rintro w2 rfl;obtain⟨y,hy⟩:=af (min x 100000);have v:y<=100000:=dg;rw[hy];clear hy;by_cases q:y<=c;.go_wp2;go_ret;exact⟨⟨t,rfl,dg⟩,a⟩
 have r:=q;obtain⟨N,C⟩:=db (by omega:0<=y-c);have p:N<=100000:=dg;obtain⟨M,B,o⟩:∃M:Nat,(N:Int).tdiv 2=M/\M<=N:=⟨N/2,rn,dg⟩;have CB:Hid (∀k:Nat,k<=100000->∀W,Cw 222 #[Iq k] W λe w'=>KS k e/\w'=W):=λk s W=>(Bp k s W).mono λe w' ⟨d,f⟩=>⟨⟨_,d,xI (o6 k)⟩,f⟩;have j:Hid (∀W,Cw 222 #[Iq 0] W λe w'=>KS 0 e/\w'=W):=CB 0 dg;have A:((N:Int)-M)=((N-M:Nat):Int):=dg;rcases(by omega:h=1\/h=2\/(h≠1/\h≠2))with rfl|rfl|⟨d,f⟩;rotate_right
 .have l:(h==1)=false:=by simpa using d
  have m:(h==2)=false:=by simpa using f
  go_wp2_with(go_at_call 222;first|(refine(CB _ dg _).mono ?_;rintro e i ⟨⟨T,rfl,g⟩,rfl⟩)|(refine(j _).mono ?_;rintro e i ⟨⟨T,rfl,g⟩,rfl⟩));go_ret;exact⟨⟨_,rfl,rn⟩,a⟩
 all_goals go_wp2_with(go_at_call 222;first|(refine(CB _ dg _).mono ?_;rintro e i ⟨⟨T,rfl,g⟩,rfl⟩)|(refine(j _).mono ?_;rintro e i ⟨⟨T,rfl,g⟩,rfl⟩));go_ret;exact⟨⟨_,rfl,rn⟩,a⟩
def KQ.pre{w:AT}{p:zze}{n cap m:Nat}{S:Nat->BY}{X:zzb}(h:KQ w (.slice p n cap) n S X)(i:m<=n):KQ w (.slice p m cap) m S X:=by
 obtain⟨j,e,a,f,d,c⟩:=h;obtain⟨rfl,rfl⟩:p=e/\cap=a:=by simpa using d
 exact⟨dg,_,_,dg,rfl,λk g=>c k dg⟩
def T9(s:BY)(x:Int)(w:AT)(hs:s.size<=4000):
 Cw 220 #[.string s,Iq x] w λe w'=>KS 80004 e/\Bq w w':=by
 by_cases hx:x<1;.go_enter func220,ntmps220;go_wp2;go_ret;exact⟨⟨_,rfl,by decide⟩,Ok⟩
 go_enter func220,ntmps220;go_wp2_with fail;refine(jN s _ dg).mono ?_;rintro e w1 ⟨⟨v,n,rfl,hn,z⟩,G⟩;obtain⟨p,cap,rfl,a⟩:=z.sl;have c:=Ii z;have hB:=G.size;have E:Hid (n=0\/∃g,p=some (aq g 0)/\w.heap.size<=g/\KB w1 g (n*2) Nr):=by
  rcases Cp n with h|h;.exact .inl h
  .exact .inr (a h)
 clear a z;go_wp2_with fail;go_loopw[6] (λi wr=>∃k:Nat,i=Iq k/\k<=n/\Hid (n=0\/∃g,p=some (aq g 0)/\w.heap.size<=g/\KB wr g (n*2) Nr)/\Hid (Bq w wr)) (λi _=>n-(intOf i).toNat);.exact⟨0,rfl,dg,E,G⟩
 obtain⟨k,rfl,U,r,o⟩:=hrel;by_cases Y:k<n;.have q:(k:Int)<n:=dg;obtain⟨g,rfl,t,a⟩:=r.resolve_left dg;replace a:=qH a;obtain⟨f0,_,c0,I,_⟩:=a.2 (k*2) dg;obtain⟨T,rfl,hT⟩:=I dg;obtain⟨f1,_,c1,_,L⟩:=a.2 (k*2+1) dg;obtain⟨X,rfl,R⟩:=L dg;clear I L r;have F:Hid (KB ((wr.setCell (aq g (k*2)) (.string ⟨#[32]⟩)).setCell (aq g (k*2+1)) (Iq 1)) g (n*2) Nr/\Bq w ((wr.setCell (aq g (k*2)) (.string ⟨#[32]⟩)).setCell (aq g (k*2+1)) (Iq 1))):=
   ⟨(a.set g (k*2) _ λ_=>⟨λ_=>⟨_,rfl,by decide⟩,λh=>dg⟩).set g (k*2+1) _ λ_=>⟨λh=>dg,λ_=>⟨1,rfl,dg,dg⟩⟩,(o.setCell (p:=(aq g _)) t _).setCell (p:=(aq g _)) t _⟩;go_wp2_with fail;all_goals first
   |exact⟨⟨k+1,by go_num,dg,.inr ⟨g,rfl,t,a⟩,o⟩,by simp only[intOf];omega⟩
   |exact⟨⟨k+1,by go_num,dg,.inr ⟨g,rfl,t,F.1⟩,F.2⟩,by simp only[intOf];omega⟩
 .have q:¬(k:Int)<n:=dg;obtain⟨w2,rfl⟩:=xX wr;obtain⟨S,X,d⟩:∃S X,KQ w2 (.slice p n cap) n S X:=by
   rcases r.out with h|⟨g,rfl,_,h⟩;.exact⟨λ_=>⟨#[]⟩,λ_=>0,dg,_,_,c,rfl,λk U=>dg⟩
   .exact NY h c dg
  have A:=pi (S:=S) (k:=n) (by obtain⟨_,_,_,_,_,H⟩:=d;exact λj O=>(H j O).1.1);have y:Hid (∀m,m<=n->(Gk S m).size<=20*m):=λm B=>pi (S:=S) (k:=m) (by obtain⟨_,_,_,_,_,H⟩:=d;exact λj O=>(H j dg).1.1);replace d:=qH d;clear r E;go_wp2_with fail;refine Ut (vG d _ Ok) ?_;rintro D f;obtain rfl:=f.symm;obtain⟨Z,N⟩:=af (Kb X n);rw[N];clear N;by_cases V:Z<=x;.go_wp2_with fail;refine Ut (vF d _ Ok) ?_;rintro D f;obtain rfl:=f.symm;obtain⟨J,l⟩:=af (Gk S n);rw[l]at A|-;clear l;go_wp2;go_ret;exact⟨⟨J,rfl,dg⟩,o⟩
  .go_wp2_with fail;refine(OZ d _ _ Ok).mono ?_;rintro e D ⟨⟨m,rfl,B,_⟩,f⟩;obtain rfl:=f.symm;have ze:(m:Int)<=cap:=dg;have Q:=y m B;have C:=qH (d.pre B);go_wp2_with fail;refine Ut (vF C _ Ok) ?_;rintro D f;obtain rfl:=f.symm;obtain⟨J,l⟩:=af (Gk S m);rw[l]at Q|-;clear l;go_wp2_with fail;refine(pK _ _).mono ?_;rintro e w6 ⟨⟨u,rfl,hu⟩,P⟩;go_wp2;go_ret;exact⟨⟨_,rfl,by rw[kG];omega⟩,o.trans (P.mono o.size)⟩
structure KN(w:AT)(g n k:Nat)(kd:Int)(ab:Nat)(t:BY)(kp:zze)(m kc:Nat)(up:Int):Prop where
 tl:t.size<=4000
 ml:m<=100
 u0:-1<=up/\up<k
 c:∀W,Bq w W->W.cell? (aq g (k*5))=some (Iq kd)/\W.cell? (aq g (k*5+1))=some (Sq ab 12 12)/\W.cell? (aq g (k*5+2))=some (.string t)/\W.cell? (aq g (k*5+3))=some (.slice kp m kc)/\W.cell? (aq g (k*5+4))=some (Iq up)
 a:∀j,j<12->∃x,∀W,Bq w W->W.cell? (aq ab j)=some (Iq x)
 kid:∀i,i<m->∃kb ko c,kp=some (aq kb ko)/\k<c/\c<n/\∀W,Bq w W->W.cell? (aq kb (ko+i))=some (Iq (c:Nat))
def uy(w:AT)(g n:Nat):Prop:=n<=100/\∀k,k<n->∃kd ab t kp m kc up,KN w g n k kd ab t kp m kc up
def klt{W:AT}{p:Addr}{v:Fd}(h:W.cell? p=some v):p.block<W.heap.size:=by
 by_cases a:p.block<W.heap.size;.exact a
 .unfold World.cell? at h;rw[C0 dg]at h;simp at h
def O2(f up:Int)(ab m d:Nat)(t:BY)(g:zze)(W:AT){h i:Int}(c:W.cell? (aq ab 5)=some (Iq h))(j:W.cell? (aq ab 6)=some (Iq i)):
 Cw 208 #[.agg #[Iq f,Sq ab 12 12,.string t,.slice g m d,Iq up]] W λe w'=>Db e/\Bq W w':=by have l:ab<W.heap.size:=klt c;have a:Bq W (W.alloc (.cells #[Iq f,Sq ab 12 12,.string t,.slice g m d,Iq up] 176)):=No;have c5:=(a.cell (p:=(aq ab 5)) l).trans c;have k:=(a.cell (p:=(aq ab 6)) l).trans j;go_enter func208,ntmps208;go_wp2_with fail;go_quiet(fail);go_wp2;go_ret;exact⟨⟨_,rfl⟩,below_drewN a _⟩
def Hy{w:AT}{g n cap:Nat}(h:uy w g n):∀f k,n<=k+f->k<n->∀U,Bq w U->
 Cw 273 #[Sq g n cap,Iq (k:Nat)] U λe U'=>KC e/\Bq U U'
 |0,k,h1,h2,U,D=>dg
 |f+1,k,h1,h2,U,D=>by
  obtain⟨X,ab,t,kp,m,kc,up,N⟩:=h.2 k h2;have E:Hid (∀i,i<m->∃L O c,kp=some (aq L O)/\(∀W,Bq w W->W.cell? (aq L (O+i))=some (Iq (c:Nat)))/\∀U,Bq w U->Cw 273 #[Sq g n cap,Iq (c:Nat)] U λe U'=>KC e/\Bq U U'):=λi hi=>by obtain⟨L,O,c,e,l1,l2,T⟩:=N.kid i hi;exact⟨L,O,c,e,T,λU D=>Hy h f c dg l2 U D⟩
  obtain⟨c0,c1,c2,c3,c4⟩:=N.c U D;obtain⟨a4,A4⟩:=N.a 4 dg;obtain⟨a5,A5⟩:=N.a 5 dg;obtain⟨a6,A6⟩:=N.a 6 dg;replace A4:=qH A4;replace A5:=qH A5;replace A6:=qH A6;have ze:=N.tl;have zg:=N.ml;have hn:=h.1;have hk:(k:Int)<n:=dg;have hs:=D.size;clear N;obtain⟨V,F⟩:=af (U.alloc (.cells #[Iq X,Sq ab 12 12,.string t,.slice kp m kc,Iq up] 176));have S:Bq U V:=by rw[<-F];exact No
  have P:Hid (∀W,Bq V W->W.cell? (aq U.heap.size 0)=some (Iq X)/\W.cell? (aq U.heap.size 1)=some (Sq ab 12 12)/\W.cell? (aq U.heap.size 2)=some (.string t)/\W.cell? (aq U.heap.size 3)=some (.slice kp m kc)/\W.cell? (aq U.heap.size 4)=some (Iq up)):=λW G=>by
   have l:U.heap.size<V.heap.size:=by rw[<-F,ai];omega
   rw[G.cell (p:=(aq U.heap.size 0)) l,G.cell (p:=(aq U.heap.size 1)) l,G.cell (p:=(aq U.heap.size 2)) l,G.cell (p:=(aq U.heap.size 3)) l,G.cell (p:=(aq U.heap.size 4)) l,<-F];simp[World.cell?_alloc_at]
  obtain⟨Y,v1,v2,Z,v4⟩:=P V Ok;by_cases h5:X=5
  .subst h5;go_enter func273,ntmps273;go_wp2_with fail;refine(yJ t _ ze).mono ?_;rintro e w1 ⟨⟨v,q,rfl,hq,K1⟩,Q⟩;obtain⟨p,pc,rfl,HP⟩:=K1.sl;replace HP:=qH HP;replace Q:=qH (S.trans (Q.mono S.size));clear K1 P E F S c0 c1 c2 c3 c4 Y v1 v2 Z v4;go_wp2;go_loopw[7,9] (λb i wr=>∃(j:Nat) (x:Int),i=Iq j/\b=Iq x/\j<=q/\Bq w1 wr) (λ_ i _=>q-(intOf i).toNat);.exact⟨0,0,rfl,rfl,dg,Ok⟩
   obtain⟨j,x,rfl,rfl,hj,r⟩:=hrel;by_cases J:j<q;.have o:(j:Int)<q:=dg;obtain⟨pg,rfl,_,hB,HB⟩:=HP dg;obtain⟨_,_,d0,u,rfl,hu⟩:=HB j dg;have d1:=(r.cell (p:=(aq pg j)) hB).trans d0;clear HB d0;go_wp2_with(first|(go_at_call 221;refine(vA u _ dg).mono ?_;rintro e u5 ⟨⟨y,rfl,_⟩,R⟩)|(go_at_call 44;refine Ut (kZ _ _ _) ?_;rintro u6 C;obtain rfl:=C.symm));exact⟨⟨j+1,_,by go_num,rfl,dg,r.trans (R.mono r.size)⟩,by simp only[intOf];omega⟩
   .have o:¬(j:Int)<q:=dg;go_wp2_with(go_at_call 213;refine(P6 _ _).mono ?_;rintro e u6 ⟨⟨y,rfl,hy⟩,C⟩;obtain rfl:=C.symm);go_ret;exact⟨⟨_,rfl,hy⟩,Q.trans (r.mono Q.size)⟩
  .have e5:(X==5)=false:=by simpa using h5
   go_enter func273,ntmps273;go_wp2_with fail;clear F c0 c1 c2 c3 c4 Y v1 v2 Z v4;have B:=qH S;go_loopw[6,7,10] (λs b i wr=>∃(j:Nat) (x y:Int),i=Iq j/\s=Iq x/\b=Iq y/\j<=m/\Bq V wr) (λ_ _ i _=>m-(intOf i).toNat);.exact⟨0,0,0,rfl,rfl,rfl,dg,Ok⟩
   obtain⟨j,x,y,rfl,rfl,rfl,hj,r⟩:=hrel;obtain⟨Y,v1,v2,Z,v4⟩:=P wr r;have d:Bq w wr:=D.trans ((B.trans (r.mono B.size)).mono hs);by_cases J:j<m;.have o:(j:Int)<m:=dg;obtain⟨L,O,c,rfl,T,CW⟩:=E j J;have k0:=T wr d;replace CW:=qH CW;clear T;go_wp2_with fail;refine(CW _ d).mono ?_;rintro e u5 ⟨⟨z,rfl,z0,z1⟩,R⟩;have I:=r.trans (R.mono r.size);obtain⟨Y,v1,v2,Z,v4⟩:=P u5 I;have q4:=A4 u5 (d.trans (R.mono d.size));go_wp2_with(go_at_call 44;refine Ut (kZ _ _ _) ?_;rintro u6 C;obtain rfl:=C.symm);all_goals exact⟨⟨j+1,_,_,by go_num,rfl,rfl,dg,I⟩,by simp only[intOf];omega⟩
   .have o:¬(j:Int)<m:=dg;have q5:=A5 wr d;have q6:=A6 wr d;have A:=B.trans (r.mono B.size);go_wp2_with(first|(go_at_call 213;refine(P6 _ _).mono ?_;rintro e u6 ⟨⟨y,rfl,hy⟩,C⟩;obtain rfl:=C.symm)|(go_at_call 208;refine(O2 _ _ _ _ _ _ _ _ q5 q6).mono ?_;rintro e u7 ⟨⟨fr,rfl⟩,b7⟩;replace A:=A.trans (b7.mono A.size)));all_goals go_ret;exact⟨⟨_,rfl,hy⟩,A⟩
def Sb(w:AT)(v:Fd)(n:Nat):Prop:=∃p cap,v=.slice p n cap/\∀k,k<n->∃a b g o,p=some (aq g o)/\g<w.heap.size/\∀W,Bq w W->W.cell? (aq g (o+k*2))=some (Iq a)/\W.cell? (aq g (o+k*2+1))=some (Iq b)
def LJ{w:AT}{v:Fd}{n:Nat}(h:Sb w v n)(t:n<=1099511627776)(id:Int)(W:AT)(l:Bq w W):
 Cw 210 #[v,Iq id] W λe w'=>Db e/\w'=W:=by
 obtain⟨p,cap,rfl,d⟩:=h;replace d:=qH d;by_cases hid:id=0;all_goals
  try subst hid
  try have j:(id !=0)=true:=by simpa using hid
  go_enter func210,ntmps210;go_wp2;go_loop[5,6] (λs i=>∃(k:Nat) (x:Int),s=Iq x/\i=Iq k/\k<=n) (λ_ i=>n-(intOf i).toNat);.exact⟨0,0,rfl,rfl,dg⟩
  obtain⟨k,x,rfl,rfl,r⟩:=hrel;by_cases f:k<n;.have c:(k:Int)<n:=dg;obtain⟨a,b,g,o,rfl,q,H⟩:=d k f;obtain⟨m,c1⟩:=H W l;clear H;go_wp2;all_goals exact⟨⟨k+1,_,rfl,by go_num,dg⟩,by simp only[intOf];omega⟩
  .have c:¬(k:Int)<n:=dg;go_wp2;go_ret;exact⟨⟨_,rfl⟩,rfl⟩
def U7(n:Nat)(e:Ending):Prop:=∃x,e=Rw (Iq x)/\-1<=x/\x<n
def Bv{w:AT}{g n cap:Nat}(h:uy w g n)(id:Int)(W:AT)(l:Bq w W):
 Cw 43 #[Sq g n cap,Iq id] W λe w'=>U7 n e/\w'=W:=by
 have u:=h.1;have p:=qH h.2;by_cases hid:id=0;all_goals
  try subst hid
  try have o:(id !=0)=true:=by simpa using hid
  go_enter func43,ntmps43;go_wp2;go_loop[5] (λi=>∃k:Nat,i=Iq k/\k<=n) (λi=>n-(intOf i).toNat);.exact⟨0,rfl,dg⟩
  obtain⟨k,rfl,s⟩:=hrel;by_cases f:k<n;.have d:(k:Int)<n:=dg;obtain⟨x,ab,t,y,m,v,up,N⟩:=p k f;obtain⟨r,c1,_⟩:=N.c W l;obtain⟨q,j⟩:=N.a 0 dg;have z:=j W l;clear j N;go_wp2;all_goals first
    |exact⟨⟨k+1,by go_num,dg⟩,by simp only[intOf];omega⟩
    |(go_ret;exact⟨⟨_,rfl,dg,dg⟩,rfl⟩)
  .have d:¬(k:Int)<n:=dg;go_wp2;go_ret;exact⟨⟨_,rfl,dg,dg⟩,rfl⟩
def Of(e:Ending):Prop:=∃x y z,e=Rw (.agg #[Iq x,Iq y,Iq z])
def pN{w:AT}{B:Nat}{t:TypeId}{e f g a c d:Fd}(h:w.heap[B]?=some (.cells #[e,f,g] t (0,0))):
 (((w.setCell (aq B 0) a).setCell (aq B 1) c).setCell (aq B 2) d).heap[B]?=some (.cells #[a,c,d] t (0,0)):=by rw[heap_setCell_same _ _ _ _ _ _ (heap_setCell_same _ _ _ _ _ _ (heap_setCell_same _ _ _ _ _ _ h))];rfl
def Ue(F up q:Int)(ab m E:Nat)(t:BY)(G:zze)(W:AT)(h:∀j,j<12->∃x,W.cell? (aq ab j)=some (Iq x)):
 Cw 272 #[.agg #[Iq F,Sq ab 12 12,.string t,.slice G m E,Iq up],Iq q] W λe w'=>Of e/\Bq W w':=by
 have D:prog.follows .mixedOrders=true:=pt;obtain⟨J,z⟩:=h 1 dg;obtain⟨L,C⟩:=h 2 dg;obtain⟨y,s⟩:=h 3 dg;have l:ab<W.heap.size:=klt z;obtain⟨u,i⟩:=af W.heap.size;obtain⟨f,B⟩:=af (u+1);obtain⟨g,k⟩:=af ((W.alloc (.cells #[Iq F,Sq ab 12 12,.string t,.slice G m E,Iq up] 176)).alloc (.cells #[Iq 0,Iq 0,Iq 0] 367));have r:Hid (Bq W g):=by rw[<-k];exact No.alloc At _
 have d:g.heap[f]?=some (.cells #[Iq 0,Iq 0,Iq 0] 367 (0,0)):=by rw[<-k,<-B,<-i];simp only[World.alloc];rw[sL,if_pos At]
 have N:g.cell? (aq u 1)=some (Sq ab 12 12):=by rw[<-k,World.cell?_alloc_past _ _ _ (by simp[<-i]),World.cell?_alloc_at _ _ _ _ i.symm];rfl
 have c1:=(r.cell (p:=(aq ab 1)) l).trans z;have c2:=(r.cell (p:=(aq ab 2)) l).trans C;have c3:=(r.cell (p:=(aq ab 3)) l).trans s;have R:g.cell? (aq f 0)=some (Iq 0):=by simp[World.cell?,d]
 have S:g.cell? (aq f 1)=some (Iq 0):=by simp[World.cell?,d]
 have w2:g.cell? (aq f 2)=some (Iq 0):=by simp[World.cell?,d]
 have I:∀j,g.frozen? (aq f j)=false:=λj=>frozen_of_row _ _ _ _ _ d;have v:=qH d;have P:ab≠f:=dg;have Q:u≠f:=dg;have o:Hid (∀a b c,Bq W (((g.setCell (aq f 0) a).setCell (aq f 1) b).setCell (aq f 2) c)):=λa b c=>((r.setCell (by show W.heap.size<=f;omega) _).setCell (by show W.heap.size<=f;omega) _).setCell (by show W.heap.size<=f;omega) _;clear h z C s d;rcases(by omega:y=0\/y≠0)with rfl|s;all_goals
  try have O:(y==0)=false:=by simpa using s
  go_enter func272,ntmps272;go_wp2_with(first|(go_at_call 211;refine Ut (pJ _ _ _) ?_;rintro u6 A;obtain rfl:=A.symm)|(go_at_call 44;refine Ut (kZ _ _ _) ?_;rintro u6 A;obtain rfl:=A.symm));all_goals go_region
  all_goals go_wp2;refine bodyPost_ret (results_cell_row rfl _ _ f _ _ _ _ rfl (pN v) underlying367 rfl pt) rfl ?_;exact⟨⟨_,_,_,rfl⟩,(o _ _ _).drew⟩
def xU(n b j:Nat)(v:Fd):Prop:=(j %5=0->∃s:BY,v=.string s/\s.size<=b)/\(j %5≠0->∃x,v=Iq x/\(j %5=4->(x=1->j/5+1<n)/\(x=2->0<j/5)))
structure KK(K M cap W H n b:Nat)(w:AT):Prop where
 c0:w.cell? (aq K 0)=some (Iq W)
 c1:w.cell? (aq K 1)=some (Iq H)
 c2:w.cell? (aq K 2)=some (Sq M n cap)
 sz:1<=W/\W<=400/\1<=H/\H<=400/\n=W*H/\1<=b
 ne:K≠M
 kb:KB w M (n*5) (xU n b)
def gz(K M cap W H n b:Nat)(w w':AT):Prop:=KK K M cap W H n b w'/\w.grownBy w' (some M)
section
variable{K M cap W H n b:Nat} {w w' w2:AT}
def gz.set(h:gz K M cap W H n b w w')(o:Nat)(v:Fd)(d:xU n b o v):gz K M cap W H n b w (w'.setCell (aq M o) v):=by
 obtain⟨h,g⟩:=h;have f:∀j,((aq M o):Addr)≠(aq K j):=λj e=>h.ne (by simpa using congrArg Addr.block e.symm);refine⟨⟨?_,?_,?_,h.sz,h.ne,h.kb.set _ _ _ λ_=>d⟩,g.os,g.tape,g.output,by simpa[World.setCell]using g.size,λb c a=>(aM _ _ _ b λe=>a (by rw[e])).trans (g.block b c a)⟩;all_goals rw[cu _ _ _ _ (f _)]
 .exact h.c0
 .exact h.c1
 .exact h.c2
def gz.below(h:gz K M cap W H n b w w')(k:Bq w' w2):gz K M cap W H n b w w2:=by
 obtain⟨h,g⟩:=h;refine⟨⟨?_,?_,?_,h.sz,h.ne,h.kb.below k⟩,k.os.trans g.os,k.tape.trans g.tape,k.output.trans g.output,aA g.size k.size,λb a c=>(k.block b (zz006 a g.size)).trans (g.block b a c)⟩;.exact(k.cell (klt h.c0)).trans h.c0
 .exact(k.cell (klt h.c1)).trans h.c1
 .exact(k.cell (klt h.c2)).trans h.c2
def gz.drew(h:gz K M cap W H n b w w')(q:Nat):gz K M cap W H n b w (w'.drewN q):=h.below (below_drewN Ok q)
def gz.trans(h:gz K M cap W H n b w w')(k:gz K M cap W H n b w' w2):gz K M cap W H n b w w2:=⟨k.1,h.2.trans k.2⟩
def KK.refl(h:KK K M cap W H n b w):gz K M cap W H n b w w:=⟨h,World.grownBy.refl _ _⟩
def KK.cell(h:KK K M cap W H n b w){i:Nat}(hi:i<n):∃s f g o p,(w.cell? (aq M (i*5))=some (.string s)/\w.cell? (aq M (i*5+1))=some (Iq f)/\w.cell? (aq M (i*5+2))=some (Iq g)/\w.cell? (aq M (i*5+3))=some (Iq o)/\w.cell? (aq M (i*5+4))=some (Iq p))/\Hid (s.size<=b/\(p=1->i+1<n)/\(p=2->0<i)):=by have H:=h.kb.2;obtain⟨_,x,c,P,_⟩:=H (i*5) dg;obtain⟨s,rfl,l⟩:=P dg;obtain⟨_,r,c1,_,a⟩:=H (i*5+1) dg;obtain⟨f,rfl,_⟩:=a dg;obtain⟨_,t,c2,_,P2⟩:=H (i*5+2) dg;obtain⟨g,rfl,_⟩:=P2 dg;obtain⟨_,u,c3,_,d⟩:=H (i*5+3) dg;obtain⟨o,rfl,_⟩:=d dg;obtain⟨_,v,c4,_,j⟩:=H (i*5+4) dg;obtain⟨p,rfl,k⟩:=j dg;obtain⟨m,q⟩:=k dg;exact⟨s,f,g,o,p,⟨c,c1,c2,c3,c4⟩,l,λe=>by have:=m e;omega,λe=>by have:=q e;omega⟩
def KK.fz(h:KK K M cap W H n b w)(j:Nat)(a:j<n*5):w.frozen? (aq M j)=false:=(h.kb.2 j a).1
def KK.fz5(h:KK K M cap W H n b w){i:Nat}(hi:i<n):w.frozen? (aq M (i*5))=false/\w.frozen? (aq M (i*5+1))=false/\w.frozen? (aq M (i*5+2))=false/\w.frozen? (aq M (i*5+3))=false/\w.frozen? (aq M (i*5+4))=false:=⟨h.fz _ dg,h.fz _ dg,h.fz _ dg,h.fz _ dg,h.fz _ dg⟩
def gz.put(h:gz K M cap W H n b w w')(i:Nat)(s:BY)(f g o p:Int)(j:s.size<=b)(c:p=1->i+1<n)(d:p=2->0<i):gz K M cap W H n b w (((((w'.setCell (aq M (i*5)) (.string s)).setCell (aq M (i*5+1)) (Iq f)).setCell (aq M (i*5+2)) (Iq g)).setCell (aq M (i*5+3)) (Iq o)).setCell (aq M (i*5+4)) (Iq p)):=by have a:∀k (x:Int),(k=4->(x=1->i+1<n)/\(x=2->0<i))->0<k->k<5->xU n b (i*5+k) (Iq x):=λk x l m q=>⟨λe=>dg,λ_=>⟨x,rfl,λe=>by have:=l dg;rwa[show(i*5+k)/5=i by omega]⟩⟩;exact((((h.set _ _ ⟨λ_=>⟨s,rfl,j⟩,λe=>dg⟩).set _ _ (a 1 f dg dg dg)).set _ _ (a 2 g dg dg dg)).set _ _ (a 3 o dg dg dg)).set _ _ (a 4 p (λ_=>⟨c,d⟩) dg dg)
def KK.nb(h:KK K M cap W H n b w):n<=160000:=by rw[h.sz.2.2.2.2.1];exact ik h.sz.2.1 h.sz.2.2.2.1
def KK.lin(h:KK K M cap W H n b w){y x:Nat}(hy:y<H)(a:x<W):y*W+x<n:=by rw[h.sz.2.2.2.2.1,eJ W H];have:(y+1)*W<=H*W:=iN _ dg;rw[fx]at this;omega
end
def qL(e:Ending):Prop:=e=Rw (.tuple #[])
section
variable{K M cap W H n b:Nat} {w:AT}
def Hb(h:KK K M cap W H n b w)(j:Int)(c:0<=j)(l:j<n):Cw 275 #[Pq K,Iq j] w λe w'=>qL e/\gz K M cap W H n b w w':=by obtain⟨i,rfl⟩:=db c;have hi:i<n:=dg;have m:=h.c2;have nb:=h.nb;obtain⟨s,f,g,o,p,⟨d0,d1,d2,d3,d4⟩,_⟩:=h.cell hi;obtain⟨f0,f1,f2,f3,f4⟩:=h.fz5 hi;have k:(i:Int)<(n:Int):=dg;have a:=qH h.refl;have d:=h.sz.2.2.2.2.2;go_enter func275,ntmps275;go_wp2_with fail;go_region;all_goals go_wp2;go_end0;exact⟨rfl,(a.drew 1).put i _ _ _ _ _ d dg dg⟩
def OV(h:KK K M cap W H n b w)(i:Nat)(hi:i<n)(x y:Int):Cw 217 #[Pq K,Iq i,Iq x,Iq y] w λe w'=>qL e/\gz K M cap W H n b w w':=by
 have z:=h.c2;have nb:=h.nb;obtain⟨s,f,g,o,p,⟨_,_,_,_,d4⟩,l⟩:=h.cell hi;have v:(i:Int)<(n:Int):=dg;have m:=qH h.refl;have k:=qH (Hb h);clear h;rcases(by omega:p=1\/p=2\/(p≠1/\p≠2))with rfl|rfl|⟨B,q⟩
 .have j:=qH<|k (i+1) dg (by have:=l.2.1 rfl;omega);clear l k;go_enter func217,ntmps217;go_wp2_with fail;all_goals try(go_end0;exact⟨rfl,m⟩)
  all_goals
   refine Ut j ?_;rintro D a;have A:=a.1.c2;obtain⟨_,_,_,_,r,⟨_,_,_,_,t⟩,d⟩:=a.1.cell hi;have c:=qH (Hb a.1);replace a:=qH a;clear z d4 j m;rcases(by omega:r=2\/r≠2)with rfl|q;.have j:=qH<|c (i-1) (by have:=d.2.2 rfl;omega) dg;clear c d;go_wp2_with fail;all_goals first
     |(go_end0;exact⟨rfl,a⟩)
     |(refine Ut j ?_;rintro w2 P2;go_wp2;go_end0;exact⟨rfl,a.trans P2⟩)
   .have u:(r==2)=false:=by simpa using q
    clear c d;go_wp2_with fail;go_end0;exact⟨rfl,a⟩
 .have j:=qH<|k (i-1) (by have:=l.2.2 rfl;omega) dg;clear l k;go_enter func217,ntmps217;go_wp2_with fail;all_goals first
   |(go_end0;exact⟨rfl,m⟩)
   |(refine Ut j ?_;rintro w2 P2;go_wp2;go_end0;exact⟨rfl,P2⟩)
 .have C:(p==1)=false:=by simpa using B
  have u:(p==2)=false:=by simpa using q
  clear l k;go_enter func217,ntmps217;go_wp2;go_end0;exact⟨rfl,m⟩
end
def Rq(N up x y:Int)(ab m L:Nat)(t:BY)(O:zze)(W:AT)(U:t.size<=4000){E:Int}(A:W.cell? (aq ab 8)=some (Iq E)):
 Cw 138 #[.agg #[Iq N,Sq ab 12 12,.string t,.slice O m L,Iq up],Iq x,Iq y] W λe w'=>KV W 9 1 4001 (Qh 80004) e w'/\Bq W w':=by
 obtain⟨i0,hi,B,C,D⟩:=info_parts Ru;obtain⟨V,F⟩:=af (W.alloc (.cells #[Iq N,Sq ab 12 12,.string t,.slice O m L,Iq up] 176));have o:Bq W V:=by rw[<-F];exact No
 have J:V.heap[W.heap.size]?=some (.cells #[Iq N,Sq ab 12 12,.string t,.slice O m L,Iq up] 176 (0,0)):=by rw[<-F];exact heap_alloc_new _ _
 have v1:V.cell? (aq W.heap.size 1)=some (Sq ab 12 12):=cell_of_row _ _ 1 _ _ _ J;have v2:V.cell? (aq W.heap.size 2)=some (.string t):=cell_of_row _ _ 2 _ _ _ J;have R:=(o.cell (klt A)).trans A;clear J A;by_cases hx:x<1;.go_enter func138,ntmps138;go_wp2;go_ret;exact⟨⟨_,0,rfl,dg,KR.nil _ _ _ _ _⟩,o⟩
 rcases(by omega:E=1\/E≠1)with rfl|A
 .go_enter func138,ntmps138;go_wp2_with fail;refine(Hj t x _ U).mono ?_;rintro e l ⟨⟨v,q,rfl,hq,u⟩,z⟩;obtain⟨p,pc,rfl,f⟩:=u.sl;replace f:=qH f;have a:=qH (o.trans (z.mono o.size));clear u z v1 v2 R F;go_wp2;go_loopw[7,9] (λv i wr=>∃j:Nat,i=Iq j/\j<=q/\KR wr l.heap.size 9 1 v j (Qh 80004)/\Bq l wr) (λ_ i _=>q-(intOf i).toNat);.exact⟨0,rfl,dg,KR.nil _ _ _ _ _,Ok⟩
  obtain⟨j,rfl,hj,g,d⟩:=hrel;by_cases I:j<q;.have c:(j:Int)<q:=dg;obtain⟨P,rfl,_,h,r⟩:=f dg;obtain⟨_,_,d0,hd⟩:=r (j*5) dg;obtain⟨s,rfl,S⟩:=hd.1 dg;have d1:=(d.cell (p:=(aq P (j*5))) h).trans d0;clear r d0 hd;go_wp2_with(at_builtin;refine yK (W0:=l) hi B C D g d [.string s] rfl _ _ rfl underlying171 ⟨rfl,by decide,by decide⟩ rfl rfl rfl ⟨rfl,rfl⟩ dg (Pe ⟨_,rfl,dg⟩) ?_;intro v' w6 K3 k _);all_goals first
    |exact⟨⟨j+1,by go_num,dg,K3,k⟩,by simp only[intOf];omega⟩
    |(go_ret;exact⟨⟨_,j,rfl,dg,g.base a.size⟩,a.trans (d.mono a.size)⟩)
  .have c:¬(j:Int)<q:=dg;go_wp2;go_ret;exact⟨⟨_,j,rfl,dg,g.base a.size⟩,a.trans (d.mono a.size)⟩
 .have e8:(E==1)=false:=by simpa using A
  go_enter func138,ntmps138;go_wp2_with fail;refine(yJ t _ U).mono ?_;rintro e l ⟨⟨v,q,rfl,hq,u⟩,z⟩;obtain⟨p,pc,rfl,f⟩:=u.sl;replace f:=qH f;have a:=qH (o.trans (z.mono o.size));clear u z v1 v2 R F;go_wp2;go_loopw[7,11] (λv i wr=>∃j:Nat,i=Iq j/\j<=q/\KR wr l.heap.size 9 1 v j (Qh 80004)/\Bq l wr) (λ_ i _=>q-(intOf i).toNat);.exact⟨0,rfl,dg,KR.nil _ _ _ _ _,Ok⟩
  obtain⟨j,rfl,hj,g,d⟩:=hrel;by_cases I:j<q;.have c:(j:Int)<q:=dg;obtain⟨P,rfl,_,h,r⟩:=f dg;obtain⟨_,_,d0,s,rfl,S⟩:=r j dg;have d1:=(d.cell (p:=(aq P j)) h).trans d0;clear r d0;go_wp2_with(first
    |(go_at_call 220;refine(T9 s _ _ S).mono ?_;rintro e w5 ⟨⟨T,rfl,Z⟩,Q⟩;have G:=d.trans (Q.mono d.size);have X:=g.below Q)
    |(at_builtin;refine yK (W0:=l) hi B C D X G [.string T] rfl _ _ rfl underlying171 ⟨rfl,by decide,by decide⟩ rfl rfl rfl ⟨rfl,rfl⟩ dg (Pe ⟨_,rfl,Z⟩) ?_;intro v' w6 K3 k _));all_goals first
    |exact⟨⟨j+1,by go_num,dg,K3,k⟩,by simp only[intOf];omega⟩
    |(go_ret;exact⟨⟨_,j,rfl,dg,g.base a.size⟩,a.trans (d.mono a.size)⟩)
  .have c:¬(j:Int)<q:=dg;go_wp2;go_ret;exact⟨⟨_,j,rfl,dg,g.base a.size⟩,a.trans (d.mono a.size)⟩
def Re(a b c d x y:Int)(W:AT):Cw 135 #[.agg #[Iq a,Iq b,Iq c,Iq d],Iq x,Iq y] W λe w'=>Db e/\Bq W w':=by have f:Hid (Bq W (W.alloc (.cells #[Iq a,Iq b,Iq c,Iq d] 123))):=No;obtain⟨p,g⟩:=af (x==a);obtain⟨q,h⟩:=af (y==b);obtain⟨r,i⟩:=af (x==wrap64 (wrap64 (a+c)-1));obtain⟨s,j⟩:=af (y==wrap64 (wrap64 (b+d)-1));cases p<;>cases q<;>cases r<;>cases s;all_goals go_enter func135,ntmps135;go_wp2;go_ret;exact⟨⟨_,rfl⟩,f⟩
def SY(e:Ending):Prop:=∃c,e=Rw (.bool c)
def Rb(f up:Int)(ab m g:Nat)(t:BY)(h:zze)(a b c d:Int)(W:AT){i:Int}(o:W.cell? (aq ab 6)=some (Iq i)):Cw 133 #[.agg #[Iq f,Sq ab 12 12,.string t,.slice h m g,Iq up],.agg #[Iq a,Iq b,Iq c,Iq d]] W λe w'=>SY e/\Bq W w':=by
 have j:Hid (Bq W ((W.alloc (.cells #[Iq f,Sq ab 12 12,.string t,.slice h m g,Iq up] 176)).alloc (.cells #[Iq a,Iq b,Iq c,Iq d] 123))):=No.alloc At _;have l:ab<W.heap.size:=klt o;have q:ab≠W.heap.size:=dg;have r:ab≠W.heap.size+1:=dg;rcases(by omega:f=3\/f≠3)with rfl|k;all_goals
  try have p:(f==3)=false:=by simpa using k
  go_enter func133,ntmps133;go_wp2;all_goals go_ret;exact⟨⟨_,rfl⟩,j⟩
