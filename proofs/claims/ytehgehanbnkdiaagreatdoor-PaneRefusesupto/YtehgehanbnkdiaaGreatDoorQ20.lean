import Derived.Test.YtehgehanbnkdiaaGreatDoorQ19
import Derived.Test.YtehgehanbnkdiaaGreatDoorQ12
set_option linter.all false
set_option maxRecDepth 100000
set_option maxHeartbeats 16000000
namespace Go.Proofs.YtehgehanbnkdiaaGreatDoor
open Go.RowKit Go.Proofs.Tryz
def Hw(f g o:Int)(w:AT):Cw 215 #[.agg #[Iq f,Iq g,Iq o]] w λe w'=>Of e/\Bq w w':=(sC f g o w).mono λe w' ⟨h,g⟩=>⟨⟨_,_,_,h⟩,g.below⟩
def Xk(w:AT)(e:Ending)(w':AT):Prop:=∃v m,e=Rw v/\1<=m/\m<=16/\KR w' w.heap.size 3 1 v m KZ
def LL(s:BY)(w:AT)(E:s.size<=1125899906842624):Cw 199 #[.string s] w λe w'=>Xk w e w'/\Bq w w':=by
 obtain⟨G,hi,f,g,h⟩:=info_parts vB;obtain⟨n,C⟩:=af s.size;go_enter func199,ntmps199;go_wp2;go_loopw[3,4,5] (λv x i wr=>∃(j m:Nat) (z:Int),i=Iq j/\x=Iq z/\j<=n+1/\m<=16/\(0<m\/j<=n)/\KR wr w.heap.size 3 1 v m KZ/\Bq w wr) (λ_ _ i _=>n+1-(intOf i).toNat);.exact⟨0,0,0,rfl,rfl,dg,dg,dg,KR.nil _ _ _ _ _,Ok⟩
 obtain⟨j,m,z,rfl,rfl,y,A,D,a,c⟩:=hrel;obtain⟨p,cap,rfl,_⟩:=a.sl;rcases(by omega:j=n+1\/j=n\/j<n)with rfl|rfl|r;.have l:¬((n+1:Nat):Int)<=s.size:=dg;go_wp2;go_ret;exact⟨⟨_,m,rfl,dg,dg,a⟩,c⟩
 all_goals
  have l:(j:Int)<=s.size:=dg;try have u:(j:Int)<s.size:=dg
  try have o:((j:Int)==s.size)=true:=by simp;omega
  try have o:((j:Int)==s.size)=false:=by simp;omega
  go_wp2_with(first|(go_at_call 211;refine Ut (pJ _ _ _) ?_;rintro u6 q;obtain rfl:=q.symm)|(at_builtin;refine yK (W0:=w) hi f g h a c [Iq z] rfl _ _ rfl underlying26 ⟨rfl,by decide,by decide⟩ rfl rfl rfl ⟨rfl,rfl⟩ dg (Pe ⟨_,rfl⟩) ?_;intro I J k d _));all_goals first
   |exact⟨⟨j+1,m+1,_,by go_num,rfl,dg,dg,dg,k,d⟩,by simp only[intOf];omega⟩
   |exact⟨⟨j+1,m,_,by go_num,rfl,dg,dg,dg,a,c⟩,by simp only[intOf];omega⟩
def LG(s:BY)(w:AT):Cw 202 #[.string s] w λe w'=>(∃t:BY,e=Rw (.string t)/\t.size=1)/\Bq w w':=by
 have c1:=AF 160 dg;have c2:=AF 128 dg;by_cases d:s.size=1;all_goals
  try have a:((s.size:Int)==1)=true:=by simp;omega
  try have a:((s.size:Int)==1)=false:=by simp;omega
  try have c:(0:Int)<s.size:=dg
  go_enter func202,ntmps202;go_wp2;all_goals go_ret;exact⟨⟨_,rfl,rfl⟩,No⟩
def Sa(e:Ending):Prop:=∃c,e=Rw (.bool c)
def LD(s:BY)(w:AT)(p:s.size<=1125899906842000):Cw 127 #[.string s] w λe w'=>Sa e/\Bq w w':=by
 go_enter func127,ntmps127;go_wp2;go_loopw[3] (λi wr=>∃j:Nat,i=Iq j/\1<=j/\j<=4/\Bq w wr) (λi _=>4-(intOf i).toNat);.exact⟨1,rfl,dg,dg,Ok⟩
 obtain⟨j,rfl,x,y,f⟩:=hrel;by_cases m:j<4
 .have c:(j:Int)<4:=dg;go_wp2;go_loopw[4,5] (λt i wr=>∃(k:Nat) (u:BY),i=Iq k/\t=.string u/\k<=j/\u.size=s.size+k/\Bq w wr) (λ_ i _=>j-(intOf i).toNat);.exact⟨0,s,rfl,rfl,dg,rfl,f⟩
  obtain⟨k,u,rfl,rfl,o,hu,a⟩:=hrel;by_cases h:k<j;.have d:(k:Int)<j:=dg;go_wp2_with fail;refine(LG u _).mono ?_;rintro e l ⟨⟨t,rfl,r⟩,g⟩;go_wp2;exact⟨⟨k+1,_,by go_num,rfl,dg,by rw[kG];omega,a.trans (g.mono a.size)⟩,by simp only[intOf];omega⟩
  .have d:¬(k:Int)<j:=dg;go_wp2_with fail;refine(O8 u 0 dg _ dg).mono ?_;rintro e l ⟨⟨q,rfl,_⟩,rfl⟩;go_wp2;all_goals first
    |exact⟨⟨j+1,by go_num,dg,dg,a⟩,by simp only[intOf];omega⟩
    |(go_ret;exact⟨⟨_,rfl⟩,a⟩)
 .have c:¬(j:Int)<4:=dg;go_wp2;go_ret;exact⟨⟨_,rfl⟩,f⟩
def vM(w:AT)(o a:Obj):((w.alloc o).alloc a).heap[w.heap.size+1]?=some a:=by have:=heap_alloc_new (w.alloc o) a;rwa[ai]at this
def Ha(f g o n:Int):∃x y z,∀w,Cw 309 #[.agg #[Iq f,Iq g,Iq o],Iq n] w λe w'=>e=Rw (.agg #[Iq x,Iq y,Iq z])/\Bq w w':=by
 rcases(by omega:n=0\/n=1\/n=22\/(30<=n/\n<=37)\/n=39\/(40<=n/\n<=47)\/n=49\/(n≠0/\n≠1/\n≠22/\¬(30<=n/\n<=37)/\n≠39/\¬(40<=n/\n<=47)/\n≠49))with rfl|rfl|rfl|h|rfl|h|rfl|h;focus refine⟨0,0,0,λw=>?_⟩
 rotate_left;focus refine⟨f,g,1,λw=>?_⟩
 rotate_left;focus refine⟨f,g,0,λw=>?_⟩
 rotate_left;focus refine⟨n-29,g,o,λw=>?_⟩
 rotate_left;focus refine⟨0,g,o,λw=>?_⟩
 rotate_left;focus refine⟨f,n-39,o,λw=>?_⟩
 rotate_left;focus refine⟨f,0,o,λw=>?_⟩
 rotate_left;focus refine⟨f,g,o,λw=>?_⟩
 rotate_left;all_goals
  try have a:(n==0)=false:=by simp;omega
  try have c:(n==1)=false:=by simp;omega
  try have d:(n==22)=false:=by simp;omega
  try have i:(n==39)=false:=by simp;omega
  try have j:(n==49)=false:=by simp;omega
  go_enter func309,ntmps309;go_wp2;all_goals refine bodyPost_ret (results_cell_row rfl _ _ (w.heap.size+1) _ _ _ _ rfl (vM _ _ _) underlying107 rfl pt) rfl ?_;exact⟨rfl,No.alloc At _⟩
def Nq(w wr:AT)(S:Nat):Prop:=(∃x y z,wr.heap[S]?=some (.cells #[Iq x,Iq y,Iq z] 107 (0,0)))/\wr.heap[S+1]?=some (.cells #[Iq 0,Iq 0,Iq 0] 107 (0,0))/\Bq w wr
def Nq.below{w wr u:AT}{S:Nat}(h:Nq w wr S)(a:Bq wr u):Nq w u S:=by obtain⟨⟨x,y,z,c⟩,d,e⟩:=h;exact⟨⟨x,y,z,(a.block S (aj.1 c).1).trans c⟩,(a.block _ (aj.1 d).1).trans d,e.trans (a.mono e.size)⟩
def Nq.set{w wr:AT}{S:Nat}(h:Nq w wr S)(hS:w.heap.size<=S)(a b c:Int):Nq w (((wr.setCell (aq S 0) (Iq a)).setCell (aq S 1) (Iq b)).setCell (aq S 2) (Iq c)) S:=by obtain⟨⟨x,y,z,d⟩,e,f⟩:=h;refine⟨⟨a,b,c,pN d⟩,?_,((f.setCell hS _).setCell hS _).setCell hS _⟩;rw[aM _ _ _ _ At,aM _ _ _ _ At,aM _ _ _ _ At];exact e
def OS{B m:Nat}{v:Fd}(f g o:Int)(w:AT)(K:KR w B 3 1 v m KZ)(h1:1<=m)(h2:m<=16):Cw 263 #[.agg #[Iq f,Iq g,Iq o],v] w λe w'=>Of e/\Bq w w':=by
 obtain⟨lb,lc,rfl,_,KL⟩:=K.kb dg;obtain⟨S,hS⟩:=af w.heap.size;obtain⟨U,A⟩:=af ((w.alloc (.cells #[Iq f,Iq g,Iq o] 107)).alloc (.cells #[Iq 0,Iq 0,Iq 0] 107));have E:Nq w U S:=by rw[<-A,<-hS];exact⟨⟨f,g,o,by rw[bG _ _ _ At];exact heap_alloc_new _ _⟩,vM _ _ _,No.alloc At _⟩
 obtain⟨O,c1,c2,c3⟩:=vO (show U.heap[S]?=some (.cells #[Iq f,Iq g,Iq o] 107 (0,0))by rw[<-A,<-hS,bG _ _ _ At];exact heap_alloc_new _ _);have hm:((m:Int)==0)=false:=by simp;omega
 replace E:=qH E;replace KL:=qH KL;clear K;go_enter func263,ntmps263;go_wp2_with fail;refine(Hw _ _ _ _).mono ?_;rintro e w1 ⟨⟨x,y,z,rfl⟩,Y⟩;have Q:=qH (E.below Y);clear O c1 c2 c3;obtain⟨⟨p,q,r,k⟩,_⟩:=Q.out;obtain⟨O,c1,c2,c3⟩:=vO k;clear k;have t:w.heap.size<=S:=dg;have s:Hid (∀u a b c,Bq w u->Bq w (((u.setCell (aq (S+1) 0) a).setCell (aq (S+1) 1) b).setCell (aq (S+1) 2) c)):=λu a b c h=>((h.setCell (by show _<=S+1;omega) _).setCell (by show _<=S+1;omega) _).setCell (by show _<=S+1;omega) _;go_wp2;go_loopw[5] (λi wr=>∃j:Nat,i=Iq j/\j<=m/\Hid (Nq w wr S)) (λi _=>m-(intOf i).toNat);.exact⟨0,rfl,dg,Q.set t x y z⟩
 obtain⟨j,rfl,hj,R⟩:=hrel;obtain⟨⟨p,q,r,k⟩,L,J⟩:=R.out;obtain⟨O,c1,c2,c3⟩:=vO k;obtain⟨r0,r1,r2,r3⟩:=vO L;by_cases Z:j<m;.have C:(j:Int)<m:=dg;obtain⟨_,_,d,y,rfl⟩:=(KL.out.below J).2 j dg;have X:Hid (Bq wr wr.drew):=Ok.drew;have N:=qH k;have l:=qH d;have P:=qH (aj.1 k).1;clear k L J r0 r1 r2 r3;go_wp2_with fail;obtain⟨a,b,c,G⟩:=Ha p q r y;replace G:=qH G;go_region_with(go_at_call 309;refine ag (G.out _) ?_;rintro e u5 ⟨rfl,I⟩;have D:Bq wr u5:=(by first|exact I|exact X.out.trans I);have V:=qH<|R.out.below D;obtain⟨t0,t1,t2,t3⟩:=vO ((D.block S P.out).trans N.out);have d5:=(D.cell (klt l.out)).trans l.out;clear D I);all_goals go_wp2_with fail;exact⟨⟨j+1,by go_num,dg,V.set t a b c⟩,by simp only[intOf];omega⟩
 .have C:¬(j:Int)<m:=dg;go_wp2;refine bodyPost_ret (results_cell_row rfl _ _ (S+1) _ _ _ _ rfl (pN L) underlying107 rfl pt) rfl ?_;exact⟨⟨_,_,_,rfl⟩,by subst hS;exact s _ _ _ _ J⟩
def yI(a b c d x y:Int)(w:AT):Cw 86 #[.agg #[Iq a,Iq b,Iq c,Iq d],Iq x,Iq y] w λe w'=>(∃b,e=Rw (.bool b))/\Bq w w':=(Aa a b c d x y w).mono λe w' ⟨h,g⟩=>⟨⟨_,h⟩,g.below⟩
def Xq(P:Prop)(e:Ending):Prop:=∃b,e=Rw (.bool b)/\(b=true->P)
def Bu{K M cap W H n b:Nat}{w:AT}(h:KK K M cap W H n b w)(x y:Int):Cw 216 #[Pq K,Iq x,Iq y] w λe w'=>Xq (0<=x/\x<W) e/\w'=w:=by have a:=h.c0;have c:=h.c1;clear h;go_enter func216,ntmps216;go_wp2;all_goals go_ret;exact⟨⟨_,rfl,λh=>rn⟩,rfl⟩
structure mZ(K M cap W H n b S:Nat)(cW:BY)(wd cx cy ca cb:Int)(w w':AT):Prop where
 p:gz K M cap W H n b w w'
 g0:w'.cell? (aq S 0)=some (.string cW)
 g1:w'.cell? (aq S 1)=some (Iq wd)
 st:KB w' (S+1) 3 KZ
 r0:w'.cell? (aq (S+2) 0)=some (Iq cx)
 r1:w'.cell? (aq (S+2) 1)=some (Iq cy)
 r2:w'.cell? (aq (S+2) 2)=some (Iq ca)
 r3:w'.cell? (aq (S+2) 3)=some (Iq cb)
 lt:M<S/\K<S/\w.heap.size<=S
section
variable{K M cap W H n b S:Nat} {cW:BY} {wd cx cy ca cb:Int} {w w' w2:AT}
def mZ.cells(h:mZ K M cap W H n b S cW wd cx cy ca cb w w')(k:gz K M cap W H n b w' w2):mZ K M cap W H n b S cW wd cx cy ca cb w w2:=by
 obtain⟨p,c,d,st,f,g,i,l,lt⟩:=h;have a:∀j,S<=j->some j≠some M:=λj m e=>by injection e;omega
 exact⟨p.trans k,k.2.cell c (a _ At),k.2.cell d (a _ At),st.of k.2.size (k.2.block _ st.1 (a _ At)),k.2.cell f (a _ At),k.2.cell g (a _ At),k.2.cell i (a _ At),k.2.cell l (a _ At),lt⟩
def mZ.below(h:mZ K M cap W H n b S cW wd cx cy ca cb w w')(k:Bq w' w2):mZ K M cap W H n b S cW wd cx cy ca cb w w2:=h.cells (h.p.1.refl.below k)
def KB.z3{w:AT}{g:Nat}(h:KB w g 3 KZ):∃x y z,w.cell? (aq g 0)=some (Iq x)/\w.cell? (aq g 1)=some (Iq y)/\w.cell? (aq g 2)=some (Iq z):=by obtain⟨_,_,a,x,rfl⟩:=h.2 0 dg;obtain⟨_,_,c,y,rfl⟩:=h.2 1 dg;obtain⟨_,_,d,z,rfl⟩:=h.2 2 dg;exact⟨x,y,z,a,c,d⟩
def mZ.style(h:mZ K M cap W H n b S cW wd cx cy ca cb w w')(o:Nat)(x:Int):mZ K M cap W H n b S cW wd cx cy ca cb w (w'.setCell (aq (S+1) o) (Iq x)):=by
 obtain⟨⟨p,gb⟩,a,c,st,k,l,m,r,lt⟩:=h;have i:∀j q,j≠S+1->((aq (S+1) o):Addr)≠(aq j q):=λj q g e=>g (by simpa using congrArg Addr.block e.symm);refine⟨⟨⟨?_,?_,?_,p.sz,p.ne,p.kb.set _ _ _ λe=>dg⟩,gb.os,gb.tape,gb.output,by simpa[World.setCell]using gb.size,λb d f=>(aM _ _ _ b (by show b≠S+1;omega)).trans (gb.block b d f)⟩,?_,?_,st.set _ _ _ λ_=>⟨_,rfl⟩,?_,?_,?_,?_,lt⟩;all_goals rw[cu _ _ _ _ (i _ _ dg)]
 .exact p.c0
 .exact p.c1
 .exact p.c2
 .exact a
 .exact c
 .exact k
 .exact l
 .exact m
 .exact r
def LQ(h:KK K M cap W H n b w)(x y f g o:Int)(ht:cW.size<=b):Cw 136 #[Pq K,Iq x,Iq y,.agg #[.string cW,Iq wd],.agg #[Iq f,Iq g,Iq o],.agg #[Iq cx,Iq cy,Iq ca,Iq cb]] w λe w'=>qL e/\gz K M cap W H n b w w':=by
 obtain⟨S,hS⟩:=af w.heap.size;obtain⟨W0,D⟩:=af (((w.alloc (.cells #[.string cW,Iq wd] 236)).alloc (.cells #[Iq f,Iq g,Iq o] 107)).alloc (.cells #[Iq cx,Iq cy,Iq ca,Iq cb] 123));have U:Hid (mZ K M cap W H n b S cW wd cx cy ca cb w W0):=by
  have l:Bq w W0:=by rw[<-D];exact(No.alloc At _).alloc (by simp;omega) _
  rw[<-D,<-hS];rw[<-D]at l;have r:=heap_alloc_new ((w.alloc (.cells #[.string cW,Iq wd] 236)).alloc (.cells #[Iq f,Iq g,Iq o] 107)) (.cells #[Iq cx,Iq cy,Iq ca,Iq cb] 123);have d:=(bG ((w.alloc (.cells #[.string cW,Iq wd] 236)).alloc (.cells #[Iq f,Iq g,Iq o] 107)) (.cells #[Iq cx,Iq cy,Iq ca,Iq cb] 123) (w.heap.size+1) At).trans (vM _ _ _);have a0:=(bG ((w.alloc (.cells #[.string cW,Iq wd] 236)).alloc (.cells #[Iq f,Iq g,Iq o] 107)) (.cells #[Iq cx,Iq cy,Iq ca,Iq cb] 123) w.heap.size (by simp;omega)).trans ((bG _ _ _ At).trans (heap_alloc_new _ _));rw[ai,ai]at r;refine⟨h.refl.below l,cell_of_row _ _ 0 _ _ _ a0,cell_of_row _ _ 1 _ _ _ a0,⟨At,λj hj=>⟨frozen_of_row _ _ _ _ _ d,?_⟩⟩,cell_of_row _ _ 0 _ _ _ r,cell_of_row _ _ 1 _ _ _ r,cell_of_row _ _ 2 _ _ _ r,cell_of_row _ _ 3 _ _ _ r,h.kb.1,klt h.c0,LE⟩;rcases(by omega:j=0\/j=1\/j=2)with rfl|rfl|rfl;.exact⟨_,cell_of_row _ _ 0 _ _ _ d,_,rfl⟩
  .exact⟨_,cell_of_row _ _ 1 _ _ _ d,_,rfl⟩
  .exact⟨_,cell_of_row _ _ 2 _ _ _ d,_,rfl⟩
 have R:=U.p.1.c0;have k1:=U.p.1.c1;have I:=U.g1;have ze:=qH h.nb;have zg:=qH h.sz;rcases(by omega:(¬(wd=1)/\¬(wd=2))\/((wd=1\/wd=2)/\y<0)\/((wd=1\/wd=2)/\0<=y/\(H:Int)<=y)\/((wd=1\/wd=2)/\0<=y/\y<H/\x< -1)\/((wd=1\/wd=2)/\0<=y/\y<H/\-1<=x/\(W:Int)<=x)\/((wd=1\/wd=2)/\0<=y/\y<H/\-1<=x/\x<W))with⟨d,r⟩|⟨d|d,r⟩|⟨d|d,r,a3⟩|⟨d|d,r,a3,a4⟩|⟨d|d,r,a3,a4,a5⟩|⟨hw,r,a3,a4,a5⟩;rotate_right;focus
  obtain⟨y,rfl⟩:=db r;obtain⟨p,hp⟩:=af (y*W);have X:(y:Int)*(W:Int)=(p:Int):=by rw[<-hp];simp
  have pn:p+W<=n:=by rw[<-hp,h.sz.2.2.2.2.1,eJ W H,<-Nat.succ_mul];exact iN _ dg
  have nb:=h.nb;have wb:1<=wd/\wd<=2:=dg;have zj:=h.sz.2.2.2.2.2;have zq:=h.sz.2.1;clear h hp ze zg;go_enter func136,ntmps136;go_upto_region 1 with fail;clear D;go_cut[47]from 16 to 46 (λs m=>s=.bool false/\Hid (mZ K M cap W H n b S cW wd cx cy ca cb w m));.rcases hw with rfl|rfl;all_goals go_wp2_with fail;go_meet;exact⟨congrArg _ (by simp;omega),U⟩
  obtain⟨rfl,B1⟩:=hcut;clear R k1 I;obtain⟨q0,q1,q2,Z,s1,s2⟩:=B1.st.z3;go_wp2_with fail;refine(Hw _ _ _ _).mono ?_;rintro e w1 ⟨⟨kf,kg,kb,rfl⟩,bb⟩;have P:=qH (B1.below bb);clear Z s1 s2 bb;have I:=P.g1;obtain⟨z0,z1,z2,Z,s1,s2⟩:=P.st.z3;have f0:=(P.st.2 0 dg).1;have f1:=(P.st.2 1 dg).1;have f2:=(P.st.2 2 dg).1;have V:=qH (((P.style 0 kf).style 1 kg).style 2 kb);have zh:=V.g1;go_upto_block 0 with fail;clear I Z s1 s2 f0 f1 f2 zh;go_cut[12]from 56 to 73 (λY m=>∃k:Int,Y=Iq k/\x<=k/\k<=x+wd/\(k<x+wd->0<=k/\k<W)/\Hid (mZ K M cap W H n b S cW wd cx cy ca cb w m))
  .go_wp2_with fail;go_loopw[12] (λY wi=>∃k:Int,Y=Iq k/\x<=k/\k<=x+wd/\Hid (mZ K M cap W H n b S cW wd cx cy ca cb w wi)) (λY _=>(x+wd-intOf Y).toNat);.exact⟨x,rfl,dg,dg,V⟩
   obtain⟨k,rfl,u,z,c⟩:=hrel;have r0:=c.r0;have r1:=c.r1;have r2:=c.r2;have r3:=c.r3;by_cases hk:k<=x+wd-1;.go_wp2_with(first|(go_at_call 216;refine(Bu c.p.1 k y).mono ?_;rintro X w3 ⟨⟨sb,rfl,L⟩,N⟩;obtain rfl:=N.symm)|(go_at_call 86;refine(yI _ _ _ _ _ _ _).mono ?_;rintro X w4 ⟨⟨hb,rfl⟩,g4⟩;have G:=qH (c.below g4)));all_goals first
     |exact⟨⟨k+1,rfl,dg,dg,G⟩,by simp only[intOf];omega⟩
     |exact⟨⟨k+1,rfl,dg,dg,c⟩,by simp only[intOf];omega⟩
     |(go_meet;exact⟨k,rfl,u,z,λ_=>L ‹_›,G⟩)
   .go_wp2_with fail;go_meet;exact⟨k,rfl,u,z,λq=>dg,c⟩
  obtain⟨k,rfl,k1,k2,k3,BK⟩:=hcut;go_upto_block 2 with fail;go_cut[13]from 74 to 91 (λtv m=>∃q:Int,tv=Iq q/\k-1<=q/\q<x+wd/\(k<=q->0<=q/\q<W)/\Hid (mZ K M cap W H n b S cW wd cx cy ca cb w m))
  .go_wp2_with fail;go_loopw[13] (λtv wi=>∃q:Int,tv=Iq q/\k-1<=q/\q<x+wd/\Hid (mZ K M cap W H n b S cW wd cx cy ca cb w wi)) (λtv _=>(intOf tv-x+2).toNat);.exact⟨x+wd-1,rfl,dg,dg,BK⟩
   obtain⟨q,rfl,u,z,c⟩:=hrel;have r0:=c.r0;have r1:=c.r1;have r2:=c.r2;have r3:=c.r3;by_cases hk:k<=q;.go_wp2_with(first|(go_at_call 216;refine(Bu c.p.1 q y).mono ?_;rintro X w3 ⟨⟨sb,rfl,L⟩,N⟩;obtain rfl:=N.symm)|(go_at_call 86;refine(yI _ _ _ _ _ _ _).mono ?_;rintro X w4 ⟨⟨hb,rfl⟩,g4⟩;have G:=qH (c.below g4)));all_goals first
     |exact⟨⟨q-1,rfl,dg,dg,G⟩,by simp only[intOf];omega⟩
     |exact⟨⟨q-1,rfl,dg,dg,c⟩,by simp only[intOf];omega⟩
     |(go_meet;exact⟨q,rfl,u,z,λ_=>L ‹_›,G⟩)
   .go_wp2_with fail;go_meet;exact⟨q,rfl,u,z,λq=>dg,c⟩
  obtain⟨q,rfl,q1,q2,q3,BQ⟩:=hcut;have C:Hid (k<=q->0<=k/\q<W):=λe=>⟨(k3 dg).1,(q3 e).2⟩;clear BK k3 q3;go_upto_block 4 with fail;go_cut[14]from 93 to 123 (λ_ m=>Hid (mZ K M cap W H n b S cW wd cx cy ca cb w m))
  .go_wp2_with fail;go_loopw[14] (λO wi=>∃j:Int,O=Iq j/\k<=j/\j<=q+1/\Hid (mZ K M cap W H n b S cW wd cx cy ca cb w wi)) (λO _=>(q+1-intOf O).toNat);.exact⟨k,rfl,dg,dg,BQ⟩
   obtain⟨j,rfl,zk,zl,c⟩:=hrel;by_cases hj:j<=q
   .have J:=C dg;have R:=c.p.1.c0;have CL:Hid (∀wq,Bq wr wq->Cw 217 #[Pq K,Iq ((p:Int)+j),Iq ((p:Int)+k),Iq ((p:Int)+q)] wq λe w'=>qL e/\mZ K M cap W H n b S cW wd cx cy ca cb w w'):=λwq hq=>by obtain⟨i,hi⟩:=db (by omega:0<=(p:Int)+j);rw[hi];exact(OV (c.below hq).p.1 i dg _ _).mono λe w' ⟨h1,h2⟩=>⟨h1,(c.below hq).cells h2⟩
    have f1:IntKind.i64.wrap ((p:Int)+j)=(p:Int)+j:=IntWalk.i64_in _ dg;have f2:IntKind.i64.wrap ((p:Int)+k)=(p:Int)+k:=IntWalk.i64_in _ dg;have f3:IntKind.i64.wrap ((p:Int)+q)=(p:Int)+q:=IntWalk.i64_in _ dg;have f4:IntKind.i64.wrap (p:Int)=(p:Int):=IntWalk.i64_in _ dg;go_wp2_with fail;go_region_with(go_at_call 217;refine ag (CL _ (by first|exact Ok|exact Ok.drew)) ?_;rintro X w3 ⟨rfl,V⟩;have G:=qH V;clear V);all_goals go_wp2_with fail;exact⟨⟨j+1,rfl,dg,dg,G⟩,by simp only[intOf];omega⟩
   .go_wp2_with fail;go_meet;exact c
  have B5:=hcut;clear hcut BQ;go_upto_block 6 with fail;go_cut[15]from 125 to 144 (λ_ m=>Hid (mZ K M cap W H n b S cW wd cx cy ca cb w m))
  .go_wp2_with fail;go_loopw[15] (λO wi=>∃j:Int,O=Iq j/\k<=j/\j<=q+1/\Hid (mZ K M cap W H n b S cW wd cx cy ca cb w wi)) (λO _=>(q+1-intOf O).toNat);.exact⟨k,rfl,dg,dg,B5⟩
   obtain⟨j,rfl,zk,zl,c⟩:=hrel;by_cases hj:j<=q;.have J:=C dg;obtain⟨j,rfl⟩:=db (by omega:0<=j);have R:=c.p.1.c0;have k2:=c.p.1.c2;obtain⟨Z,s1,s2,zm,zn,zo⟩:=c.st.z3;obtain⟨t0,t1,t2,t3,t4,⟨d0,d1,d2,d3,d4⟩,_⟩:=c.p.1.cell (i:=p+j) dg;have fz:=c.p.1.fz5 (i:=p+j) dg;obtain⟨z0,z1,z2,z3,z4⟩:=fz;have pj:(p:Int)+j<(n:Int):=dg;have f1:IntKind.i64.wrap ((p:Int)+j)=(p:Int)+j:=IntWalk.i64_in _ dg;have f4:IntKind.i64.wrap (p:Int)=(p:Int):=IntWalk.i64_in _ dg;have t:Hid (mZ K M cap W H n b S cW wd cx cy ca cb w (wr.drewN 1)):=c.below (below_drewN Ok 1);go_wp2_with fail;go_region;all_goals go_wp2_with fail;exact⟨⟨j+1,by go_num,dg,dg,t.cells (t.p.1.refl.put (p+j) _ _ _ _ _ zj dg dg)⟩,by simp only[intOf];omega⟩
   .go_wp2_with fail;go_meet;exact c
  have A:=hcut;clear hcut B5;have I:=A.g1;by_cases zi:k=x/\q=x+wd-1
  .obtain⟨rfl,rfl⟩:=zi;have J:=C dg;obtain⟨a,rfl⟩:=db J.1;clear C;have pa:(p:Int)+a<(n:Int):=dg;have f1:IntKind.i64.wrap ((p:Int)+a)=(p:Int)+a:=IntWalk.i64_in _ dg;have f4:IntKind.i64.wrap (p:Int)=(p:Int):=IntWalk.i64_in _ dg;go_upto_region 18 with fail;go_cut[172]from 157 to 171 (λ_ m=>Hid (mZ K M cap W H n b S cW wd cx cy ca cb w m));.have R:=A.p.1.c0;have k2:=A.p.1.c2;have g0:=A.g0;obtain⟨t0,t1,t2,t3,t4,⟨d0,d1,d2,d3,d4⟩,_⟩:=A.p.1.cell (i:=p+a) dg;obtain⟨z0,z1,z2,z3,z4⟩:=A.p.1.fz5 (i:=p+a) dg;have t:Hid (mZ K M cap W H n b S cW wd cx cy ca cb w (wc.drewN 1)):=A.below (below_drewN Ok 1);go_region;all_goals go_wp2_with fail;go_meet;exact t.cells (t.p.1.refl.set _ _ ⟨λ_=>⟨_,rfl,ht⟩,λe=>dg⟩)
   have E:=hcut;clear hcut A I;have I:=E.g1;rcases hw with rfl|rfl;.go_wp2_with fail;go_end0;exact⟨rfl,E.p⟩
   .have f5:IntKind.i64.wrap ((p:Int)+a+1)=(p:Int)+a+1:=IntWalk.i64_in _ dg;go_upto_region 20 with fail;clear I;go_cut[189]from 176 to 188 (λ_ m=>Hid (mZ K M cap W H n b S cW 2 cx cy ca cb w m));.have R:=E.p.1.c0;have k2:=E.p.1.c2;obtain⟨t0,t1,t2,t3,t4,⟨d0,d1,d2,d3,d4⟩,_⟩:=E.p.1.cell (i:=p+a) dg;obtain⟨z0,z1,z2,z3,z4⟩:=E.p.1.fz5 (i:=p+a) dg;have t:Hid (mZ K M cap W H n b S cW 2 cx cy ca cb w (wc.drewN 1)):=E.below (below_drewN Ok 1);go_region;all_goals go_wp2_with fail;go_meet;exact t.cells (t.p.1.refl.set _ _ ⟨λe=>dg,λ_=>⟨_,rfl,λ_=>⟨λ_=>dg,λe=>dg⟩⟩⟩)
    have Q:=hcut;clear hcut E;have R:=Q.p.1.c0;have k2:=Q.p.1.c2;obtain⟨Z,s1,s2,zm,zn,zo⟩:=Q.st.z3;obtain⟨t0,t1,t2,t3,t4,⟨d0,d1,d2,d3,d4⟩,_⟩:=Q.p.1.cell (i:=p+a+1) dg;obtain⟨z0,z1,z2,z3,z4⟩:=Q.p.1.fz5 (i:=p+a+1) dg;have t:Hid (mZ K M cap W H n b S cW 2 cx cy ca cb w (wc.drewN 1)):=Q.below (below_drewN Ok 1);go_wp2_with fail;go_region;all_goals go_wp2_with fail;go_end0;exact⟨rfl,(t.cells (t.p.1.refl.put (p+a+1) _ _ _ _ _ (by show 0<=b;omega) dg dg)).p⟩
  .have t1:(k==x)=false\/((k==x)=true/\(q==x+wd-1)=false):=by simp only[beq_eq_false_iff_ne,beq_iff_eq];omega
   rcases t1 with t1|⟨t1,t2⟩;all_goals go_wp2_with fail;go_end0;exact⟨rfl,A.p⟩
 all_goals
  try subst d
  go_enter func136,ntmps136;go_wp2;refine bodyPost_ret (results_none rfl _ _ _) rfl ?_;exact⟨rfl,U.p⟩
end
def PO(_:Nat)(v:Fd):Prop:=∃c,v=.bool c
def Nt(K B n bc W H:Nat)(hf:BY)(j:Nat)(v:Fd):Prop:=(j=0->v=Pq K)/\(j=1->∃x:Nat,v=Iq x/\x<=W)/\(j=2->∃x:Nat,v=Iq x/\x<H)/\(j=6->v=.string hf)/\(j=7->∃x:Int,v=Iq x/\x<n)/\(j=9->v=Sq B n bc)/\(j=3\/j=4\/j=5\/j=8->∃x,v=Iq x)
structure K3(T M B:Nat)(W W':AT):Prop where
 os:W'.os=W.os
 tape:W'.tape=W.tape
 output:W'.output=W.output
 size:W.heap.size<=W'.heap.size
 block:∀b,b<W.heap.size->b≠T->b≠M->b≠B->W'.heap[b]?=W.heap[b]?
structure ka(T K M cap W H n b B bc:Nat)(hf:BY)(w:AT):Prop where
 tb:KB w T 10 (Nt K B n bc W H hf)
 kk:KK K M cap W H n b w
 bb:KB w B n PO
 ne:T≠K/\T≠M/\T≠B/\K≠B/\M≠B
def gA(T W H n B bc F M0:Nat)(w0:AT)(hf:BY)(w:AT):Prop:=∃K M cap b,ka T K M cap W H n b B bc hf w/\(4<=b/\b+4*hf.size<=F)/\K3 T M0 B w0 w/\(M=M0\/w0.heap.size<=M)/\T<w0.heap.size/\B<w0.heap.size/\(K<w0.heap.size->w0.cell? (aq T 0)=some (Pq K))
section
variable{T K M cap W H n b B bc F M0:Nat} {hf oE:BY} {w0 w w':AT}
def K3.grown(h:K3 T M0 B w0 w)(k:w.grownBy w' (some M))(g:M=M0\/w0.heap.size<=M):K3 T M0 B w0 w':=⟨k.os.trans h.os,k.tape.trans h.tape,k.output.trans h.output,aA h.size k.size,λb a c d f=>(k.block b (zz006 a h.size) λe=>by injection e;omega).trans (h.block b a c d f)⟩
def K3.set(h:K3 T M0 B w0 w)(g o:Nat)(v:Fd)(f:g=T\/g=B\/g=M0\/w0.heap.size<=g):K3 T M0 B w0 (w.setCell (aq g o) v):=⟨h.os,h.tape,h.output,by simpa[World.setCell]using h.size,λb a c d e=>(aM _ _ _ b (by show b≠g;omega)).trans (h.block b a c d e)⟩
def KB.setP{w:AT}{g n:Nat}{P Q:Nat->Fd->Prop}(h:KB w g n P)(o:Nat)(x:Fd)(k:Q o x)(f:∀j v,j≠o->P j v->Q j v):KB (w.setCell (aq g o) x) g n Q:=by
 refine⟨by simpa[World.setCell]using h.1,λj i=>?_⟩;obtain⟨c,y,a,d⟩:=h.2 j i;refine⟨by simpa using c,?_⟩;by_cases e:o=j;.subst e;exact⟨x,kF _ _ _ a,k⟩
 .exact⟨y,by rw[cu _ _ _ _ (by simpa using e)];exact a,f j y (λq=>e q.symm) d⟩
def KK.of(h:KK K M cap W H n b w)(d:w.heap.size<=w'.heap.size)(a:w'.heap[K]?=w.heap[K]?)(c:w'.heap[M]?=w.heap[M]?):KK K M cap W H n b w':=by
 refine⟨?_,?_,?_,h.sz,h.ne,h.kb.of d c⟩;all_goals rw[aQ (w:=w) a]
 .exact h.c0
 .exact h.c1
 .exact h.c2
def ka.setT(h:ka T K M cap W H n b B bc hf w)(o:Nat)(v:Fd)(f:Nt K B n bc W H oE o v)(c:oE=hf\/o=6):ka T K M cap W H n b B bc oE (w.setCell (aq T o) v):=by
 obtain⟨r,s,g,t,x⟩:=h.ne;refine⟨h.tb.setP o v f λj u d a=>?_,h.kk.of (by simp[World.setCell]) (aM _ _ _ K (by show K≠T;omega)) (aM _ _ _ M (by show M≠T;omega)),h.bb.set _ _ _ λe=>absurd e g,h.ne⟩;rcases c with rfl|rfl;.exact a
 .obtain⟨i,k,l,y,m,p,q⟩:=a;exact⟨i,k,l,λe=>absurd e d,m,p,q⟩
def gA.setT(h:gA T W H n B bc F M0 w0 hf w)(o:Nat)(v:Fd)(c:∀K,Nt K B n bc W H hf o v):gA T W H n B bc F M0 w0 hf (w.setCell (aq T o) v):=by obtain⟨K,M,cap,b,h,hF,k,a⟩:=h;exact⟨K,M,cap,b,h.setT o v (c K) (.inl rfl),hF,k.set _ _ _ (.inl rfl),a⟩
def gA.half(h:gA T W H n B bc F M0 w0 hf w)(d:Nat)(hd:4*oE.size+d<=4*hf.size):gA T W H n B bc (F-d) M0 w0 oE (w.setCell (aq T 6) (.string oE)):=by obtain⟨K,M,cap,b,h,hF,k,a⟩:=h;exact⟨K,M,cap,b,h.setT 6 _ ⟨λe=>dg,λe=>dg,λe=>dg,λ_=>rfl,λe=>dg,λe=>dg,λe=>dg⟩ (.inr rfl),dg,k.set _ _ _ (.inl rfl),a⟩
def gA.mono{a:Nat}(h:gA T W H n B bc F M0 w0 hf w)(hF:F<=a):gA T W H n B bc a M0 w0 hf w:=by obtain⟨K,M,cap,b,h,d,k,c⟩:=h;exact⟨K,M,cap,b,h,dg,k,c⟩
def ka.below(h:ka T K M cap W H n b B bc hf w)(k:Bq w w'):ka T K M cap W H n b B bc hf w':=⟨h.tb.below k,(h.kk.refl.below k).1,h.bb.below k,h.ne⟩
def K3.below(h:K3 T M0 B w0 w)(k:Bq w w'):K3 T M0 B w0 w':=⟨k.os.trans h.os,k.tape.trans h.tape,k.output.trans h.output,aA h.size k.size,λb a c d e=>(k.block b (zz006 a h.size)).trans (h.block b a c d e)⟩
def gA.below(h:gA T W H n B bc F M0 w0 hf w)(k:Bq w w'):gA T W H n B bc F M0 w0 hf w':=by obtain⟨K,M,cap,b,h,hF,c,a⟩:=h;exact⟨K,M,cap,b,h.below k,hF,c.below k,a⟩
def ka.cells(h:ka T K M cap W H n b B bc hf w){a:Nat}(k:gz K M cap W H n a w w'):ka T K M cap W H n a B bc hf w':=by obtain⟨c,d,f,g,i⟩:=h.ne;exact⟨h.tb.of k.2.size (k.2.block T h.tb.1 λe=>by injection e;omega),k.1,h.bb.of k.2.size (k.2.block B h.bb.1 λe=>by injection e;omega),h.ne⟩
def ka.setB(h:ka T K M cap W H n b B bc hf w)(o:Nat)(c:Bool):ka T K M cap W H n b B bc hf (w.setCell (aq B o) (.bool c)):=by obtain⟨g,i,a,d,f⟩:=h.ne;exact⟨h.tb.set _ _ _ λe=>absurd e.symm a,h.kk.of (by simp[World.setCell]) (aM _ _ _ K d) (aM _ _ _ M f),h.bb.set _ _ _ λ_=>⟨_,rfl⟩,h.ne⟩
def gA.setB(h:gA T W H n B bc F M0 w0 hf w)(o:Nat)(c:Bool):gA T W H n B bc F M0 w0 hf (w.setCell (aq B o) (.bool c)):=by obtain⟨K,M,cap,b,h,hF,k,a⟩:=h;exact⟨K,M,cap,b,h.setB o c,hF,k.set _ _ _ (.inr (.inl rfl)),a⟩
def ka.at(h:ka T K M cap W H n b B bc hf w):∃(x y:Nat) (f g o a mk:Int),(w.cell? (aq T 0)=some (Pq K)/\w.cell? (aq T 1)=some (Iq x)/\w.cell? (aq T 2)=some (Iq y)/\w.cell? (aq T 3)=some (Iq f)/\w.cell? (aq T 4)=some (Iq g)/\w.cell? (aq T 5)=some (Iq o)/\w.cell? (aq T 6)=some (.string hf)/\w.cell? (aq T 7)=some (Iq a)/\w.cell? (aq T 8)=some (Iq mk)/\w.cell? (aq T 9)=some (Sq B n bc))/\x<=W/\y<H/\a<n:=by obtain⟨_,_,t0,c⟩:=h.tb.2 0 dg;obtain⟨_,_,t1,d⟩:=h.tb.2 1 dg;obtain⟨_,_,t2,P2⟩:=h.tb.2 2 dg;obtain⟨_,_,t3,e⟩:=h.tb.2 3 dg;obtain⟨_,_,t4,i⟩:=h.tb.2 4 dg;obtain⟨_,_,t5,j⟩:=h.tb.2 5 dg;obtain⟨_,_,t6,k⟩:=h.tb.2 6 dg;obtain⟨_,_,t7,l⟩:=h.tb.2 7 dg;obtain⟨_,_,t8,m⟩:=h.tb.2 8 dg;obtain⟨_,_,t9,p⟩:=h.tb.2 9 dg;obtain rfl:=c.1 rfl;obtain⟨x,rfl,r⟩:=d.2.1 rfl;obtain⟨y,rfl,hy⟩:=P2.2.2.1 rfl;obtain⟨f,rfl⟩:=e.2.2.2.2.2.2 dg;obtain⟨g,rfl⟩:=i.2.2.2.2.2.2 dg;obtain⟨o,rfl⟩:=j.2.2.2.2.2.2 dg;obtain rfl:=k.2.2.2.1 rfl;obtain⟨a,rfl,q⟩:=l.2.2.2.2.1 rfl;obtain⟨mk,rfl⟩:=m.2.2.2.2.2.2 dg;obtain rfl:=p.2.2.2.2.2.1 rfl;exact⟨x,y,f,g,o,a,mk,⟨t0,t1,t2,t3,t4,t5,t6,t7,t8,t9⟩,r,hy,q⟩
def ka.fz(h:ka T K M cap W H n b B bc hf w)(j:Nat)(a:j<10):w.frozen? (aq T j)=false:=(h.tb.2 j a).1
def nw{j:Nat}(x:Int)(h:j=3\/j=4\/j=5\/j=8\/(j=7/\x<n)\/(j=1/\0<=x/\x<=W)\/(j=2/\0<=x/\x<H))(K:Nat):Nt K B n bc W H hf j (Iq x):=⟨λe=>dg,λe=>⟨x.toNat,by rw[JS dg],dg⟩,λe=>⟨x.toNat,by rw[JS dg],dg⟩,λe=>dg,λe=>⟨x,rfl,dg⟩,λe=>dg,λ_=>⟨x,rfl⟩⟩
end
def O'(r:Int):∃x,(x=0\/x=1\/x=2)/\∀w,Cw 201 #[Iq r] w λe w'=>e=Rw (Iq x)/\Bq w w':=⟨mY r,by unfold mY;split<;>(try split)<;>omega,λw=>ld r w⟩
def Rv(r:Int):∃s:BY,s.size<=4/\∀w,Cw 137 #[Iq r] w λe w'=>e=Rw (.string s)/\Bq w w':=⟨⟨(Lib.encodeRune r).toArray⟩,by have:=gF r;simpa[ByteArray.size]using this,λw=>nM r w⟩
section
variable{T K M cap W H n b B bc F M0:Nat} {hf:BY} {w0 w w':AT}
def KK.mono(h:KK K M cap W H n b w){a:Nat}(p:b<=a):KK K M cap W H n a w:=by obtain⟨g,i,k,m,o,q⟩:=h.sz;refine⟨h.c0,h.c1,h.c2,⟨g,i,k,m,o,dg⟩,h.ne,h.kb.1,λj d=>?_⟩;obtain⟨f,v,c,P,Q⟩:=h.kb.2 j d;refine⟨f,v,c,λe=>?_,Q⟩;obtain⟨s,e,l⟩:=P e;exact⟨s,e,dg⟩
def aV{w w':AT}{p:Addr}{v:Fd}(g:Bq w w')(h:w.cell? p=some v):w'.cell? p=some v:=(g.cell (klt h)).trans h
def Bz{w:AT}{p q:Addr}{v u:Fd}(h:w.cell? p=some v)(a:p.block≠q.block):(w.setCell q u).cell? p=some v:=by rw[cu _ _ _ _ (λe=>a (by rw[e]))];exact h
structure sW(T K M cap W H n b B bc M0 S:Nat)(w0 v:AT)(hf:BY)(w:AT):Prop where
 t:ka T K M cap W H n b B bc hf w
 k:K3 T M0 B w0 w
 s:KB w S n KZ
 ne:S≠T/\S≠K/\S≠M/\S≠B/\w0.heap.size<=S
 o:w.heap[T]?=v.heap[T]?
section
variable{S:Nat} {v:AT}
def sW.below(h:sW T K M cap W H n b B bc M0 S w0 v hf w)(g:Bq w w'):sW T K M cap W H n b B bc M0 S w0 v hf w':=⟨h.t.below g,h.k.below g,h.s.below g,h.ne,(g.block T h.t.tb.1).trans h.o⟩
def sW.was(h:sW T K M cap W H n b B bc M0 S w0 v hf w)(o:Nat)(x:Int):sW T K M cap W H n b B bc M0 S w0 v hf (w.setCell (aq S o) (Iq x)):=by obtain⟨a,d,f,c,g⟩:=h.ne;exact⟨⟨h.t.tb.set _ _ _ λe=>absurd e a,h.t.kk.of (by simp[World.setCell]) (aM _ _ _ K (by show K≠S;omega)) (aM _ _ _ M (by show M≠S;omega)),h.t.bb.set _ _ _ λe=>absurd e c,h.t.ne⟩,h.k.set _ _ _ dg,h.s.set _ _ _ λ_=>⟨_,rfl⟩,h.ne,(aM _ _ _ T (by show T≠S;omega)).trans h.o⟩
def sW.setB(h:sW T K M cap W H n b B bc M0 S w0 v hf w)(o:Nat)(c:Bool):sW T K M cap W H n b B bc M0 S w0 v hf (w.setCell (aq B o) (.bool c)):=⟨h.t.setB o c,h.k.set _ _ _ (.inr (.inl rfl)),h.s.set _ _ _ λe=>absurd e.symm h.ne.2.2.2.1,h.ne,(aM _ _ _ T h.t.ne.2.2.1).trans h.o⟩
def sW.cells(h:sW T K M cap W H n b B bc M0 S w0 v hf w)(a:M=M0\/w0.heap.size<=M)(g:gz K M cap W H n b w w'):sW T K M cap W H n b B bc M0 S w0 v hf w':=⟨h.t.cells g,h.k.grown g.2 a,h.s.of g.2.size (g.2.block S h.s.1 λe=>by injection e with e;exact h.ne.2.2.1 e),h.ne,(g.2.block T h.t.tb.1 λe=>by injection e with e;exact h.t.ne.2.1 e).trans h.o⟩
def sW.c(h:sW T K M cap W H n b B bc M0 S w0 v hf w){j:Nat}{x:Fd}(a:v.cell? (aq T j)=some x):w.cell? (aq T j)=some x:=(aQ (w:=v) h.o).trans a
end
def mj{P:Program}{e:Array Oper}{Q:Exit->Act->AT->Prop}{g:Region.Mode}{S:AT->Prop}(i:Nat){j:Oper}{v:Fd}{f:Nat}{d:Array Bool}{a:Act}{w:AT}(h:wpAnyH P g e Q S f (d.setIfInBounds i true) (a.put j.dst v) w)(hi:e[i]?=some j:=by rfl)(o:Region.noSelect e=true:=by first|kernel_rfl)(hf:Region.free g e d i=true:=by first|kernel_rfl)(m:(Region.ready g e d).contains i=true:=by first|kernel_rfl)(l:∀c a w,Q (.panic c) (a.put j.dst v) w->Q (.panic c) a w:=by exact λ_ _ _ h=>h)(hy:YieldsIf P e S j v a:=by exact Or.inl ⟨by rfl,by intro w k;(try dsimp only at k);go_simp<;>with_reducible rfl⟩)(hS:S w:=by assumption):wpAnyH P g e Q S (f+1) d a w:=wpAnyH_take hi o hf m l hy hS h
def O7(h:gA T W H n B bc F M0 w0 hf w)(hF:F<=70368744177664)(r:Int):Cw 126 #[Pq T,Iq r] w λe w'=>qL e/\gA T W H n B bc (F+4) M0 w0 hf w':=by
 have Z:prog.follows .mixedOrders=true:=pt;obtain⟨wd,O,WI⟩:=O' r;obtain⟨ex,hex,WR⟩:=Rv r;replace WI:=qH WI;replace WR:=qH WR;replace h:=qH h;go_enter func126,ntmps126;go_wp2_with fail;refine Ut (WI.out _) ?_;rintro w1 X;have H1:=qH (h.below X);clear X h WI;obtain⟨K,M,cap,b,h,⟨b4,zn⟩,k3,hM⟩:=H1.out;obtain⟨x,y,f,g,o,la,mk,⟨t0,t1,t2,t3,t4,t5,t6,t7,t8,t9⟩,hx,hy,hl⟩:=h.at;have nb:=h.kk.nb;obtain⟨n1,n2,n3,n4,n5⟩:=h.ne;have n7:=h.kk.ne;have HM:=qH h;have H3:=qH k3;have A:=qH hM;rcases O with rfl|O
 .by_cases h0:0<=la
  .by_cases h4:mk<4
   .obtain⟨l,rfl⟩:=db h0;have J:=h.kk.c2;obtain⟨tx,p1,p2,p3,p4,⟨d0,_⟩,HC⟩:=h.kk.cell (i:=l) dg;have zu:=HC.1;have f0:=h.kk.fz (l*5) dg;have zt:¬9223372036854775807<tx.size+ex.size:=dg;clear h k3 HC;go_wp2_with fail;refine wp_region_held_drew (S:=λu=>u.cell? (aq T 0)=some (Pq K)/\u.cell? (aq K 2)=some (Sq M n cap)/\u.cell? (aq T 7)=some (Iq l)) Z ⟨t0,J,t7⟩ λzo=>?_;refine mj 0 ?_;refine mj 1 ?_;refine mj 2 ?_;refine mj 3 ?_;refine mj 4 ?_;refine mj 5 ?_;refine mj 6 ?_;refine mj 7 ?_;refine mj 8 ?_;refine mj 9 ?_;refine mj 10 ?_;refine mj 11 ?_;refine mj 12 ?_;refine mj 13 ?_;refine mj 14 ?_;refine mj 15 ?_;refine mj 16 ?_;refine mj 17 ?_;refine mj 18 ?_;refine mj 19 ?_;refine mj 20 ?_;refine mj 21 ?_;refine mj 22 ?_;refine mj 23 ?_;refine mj 25 ?_;try simp only[Act.put]
    refine wpAnyH_ready (rs:=[24,26]) pt At ?_;refine AllReadyH.cons rfl (λI m=>?_) (AllReadyH.cons rfl (λI m=>?_) AllReadyH.nil);focus go_simp;refine m.out _ _ ⟨t0,J,t7⟩ λzq=>?_;clear m I;refine wpAnyH_ready (rs:=[26]) pt At ?_;refine AllReadyH.cons rfl (λI m=>?_) AllReadyH.nil
    rotate_right;all_goals go_simp;go_wp2_with(first|(go_at_call 137;refine ag (WR.out _) ?_;rintro e u2 ⟨rfl,D⟩));have L:=aV D t0;have Q:=aV D J;have R:=aV D t7;have zl:=aV D d0;have zm:=(D.frozen (klt d0)).trans f0;refine m.out _ _ ⟨L,Q,R⟩ λzr=>?_;clear m I
    focus refine wpAnyH_ready (rs:=[24]) pt At ?_;refine AllReadyH.cons rfl (λI m=>?_) AllReadyH.nil;go_simp;refine m.out _ _ ⟨L,Q,R⟩ λ_=>?_;clear m I
    all_goals
     refine mj 27 ?_;refine mj 28 ?_;refine mj 29 ?_;try simp only[Act.put]
     refine wpAnyH_ready (rs:=[30]) pt At ?_;refine AllReadyH.cons rfl (λI m=>?_) AllReadyH.nil;go_simp;refine m.out _ _ ⟨Bz L n2,Bz Q n7,Bz R n2⟩ λ_=>?_;clear m I;refine wpAnyH_done pt ?_ _
    all_goals have E2:=qH<|(show Bq w1 w1.drew from Ok.drew).trans D;have a:=qH (HM.below E2);have C2:=qH (((a.kk.mono (by omega:b<=b+4)).refl).set (l*5) (.string (tx++ex)) ⟨λ_=>⟨_,rfl,by rw[kG];omega⟩,λe=>dg⟩);have d8:=Bz (q:=(aq M (l*5))) (u:=.string (tx++ex)) (aV D t8) n2;have f8:=(a.cells C2).fz 8 dg;have HF:Hid (gA T W H n B bc (F+4) M0 w0 hf ((u2.setCell (aq M (l*5)) (.string (tx++ex))).setCell (aq T 8) (Iq (wrap64 (mk+1))))):=⟨K,M,cap,b+4,(a.cells C2).setT 8 _ (nw _ dg K) (.inl rfl),⟨dg,dg⟩,((H3.below E2).grown C2.2 A.1).set _ _ _ (.inl rfl),A⟩;clear a C2 E2;go_wp2;refine bodyPost_ret (results_none rfl _ _ _) rfl ?_;exact⟨rfl,HF⟩
   .have e4:¬mk<4:=h4;go_wp2;refine bodyPost_ret (results_none rfl _ _ _) rfl ?_;exact⟨rfl,H1.mono dg⟩
  .go_wp2;refine bodyPost_ret (results_none rfl _ _ _) rfl ?_;exact⟨rfl,H1.mono dg⟩
 .have z7:=h.fz 7 dg;have zv:1<=wd/\wd<=2:=dg;have ew:(wd==0)=false:=by simp;omega
  clear O;obtain⟨w2,G⟩:=af (w1.setCell (aq T 7) (Iq (-1)));have a:Hid (ka T K M cap W H n b B bc hf w2):=by rw[<-G];exact h.setT 7 _ (nw _ dg K) (.inl rfl)
  have K2:Hid (K3 T M0 B w0 w2):=by rw[<-G];exact k3.set _ _ _ (.inl rfl)
  clear h k3 HM H3 H1;go_upto_region 6 with fail;try rw[G]
  clear t0 t1 t2 t3 t4 t5 t6 t7 t8 t9 z7 G hx hy hl;obtain⟨x,y,f,g,o,la,mk,⟨t0,t1,t2,t3,t4,t5,t6,t7,t8,t9⟩,hx,hy,hl⟩:=a.at;have k0:=a.kk.c0;have k1:=a.kk.c1;have J:=a.kk.c2;have hW:=a.kk.sz.2.1;by_cases hr:(x:Int)+wd<=W
  .have Y:Hid (y*W+x<n):=a.kk.lin hy dg;have zi:=run_make_row' (P:=prog) 26 3 (Iq 0) 8 underlying26 vB rfl .i64 .i64 n dg dg;have ze:Hid (T<w2.heap.size/\K<w2.heap.size/\M<w2.heap.size/\B<w2.heap.size/\w0.heap.size<=w2.heap.size):=⟨a.tb.1,klt k0,a.kk.kb.1,a.bb.1,K2.size⟩;go_quiet(fail);go_wp2;have P0:Hid (sW T K M cap W H n b B bc M0 w2.heap.size w0 w2 hf ((w2.drewN nq).alloc (.cells (madeCells #[Iq 0] n) 3))):=by have N:Bq w2 ((w2.drewN nq).alloc (.cells (madeCells #[Iq 0] n) 3)):=(below_drewN Ok nq).alloc LE _;exact⟨a.below N,K2.below N,KB.make (w2.drewN nq) n 3 (Iq 0) λ_=>⟨_,rfl⟩,by have:=ze.out;omega,N.block T a.tb.1⟩
   have HT:Hid (w2.cell? (aq T 0)=some (Pq K)/\w2.cell? (aq T 1)=some (Iq x)/\w2.cell? (aq T 2)=some (Iq y)/\w2.cell? (aq T 3)=some (Iq f)/\w2.cell? (aq T 4)=some (Iq g)/\w2.cell? (aq T 5)=some (Iq o)/\w2.cell? (aq T 7)=some (Iq la)/\w2.cell? (aq T 8)=some (Iq mk)/\w2.cell? (aq T 9)=some (Sq B n bc)):=⟨t0,t1,t2,t3,t4,t5,t7,t8,t9⟩;obtain⟨S,hS⟩:=af w2.heap.size;rw[hS]at P0|-;have E:Hid (∀u,sW T K M cap W H n b B bc M0 S w0 w2 hf u->(u.cell? (aq T 0)=some (Pq K)/\u.cell? (aq T 1)=some (Iq x)/\u.cell? (aq T 2)=some (Iq y)/\u.cell? (aq T 3)=some (Iq f)/\u.cell? (aq T 4)=some (Iq g)/\u.cell? (aq T 5)=some (Iq o)/\u.cell? (aq T 7)=some (Iq la)/\u.cell? (aq T 8)=some (Iq mk)/\u.cell? (aq T 9)=some (Sq B n bc))/\u.cell? (aq K 0)=some (Iq W)/\u.cell? (aq K 1)=some (Iq H)/\u.cell? (aq K 2)=some (Sq M n cap)):=λu P=>by obtain⟨h0,U,h2,h3,h4,h5,h7,h8,h9⟩:=HT.out;exact⟨⟨P.c h0,P.c U,P.c h2,P.c h3,P.c h4,P.c h5,P.c h7,P.c h8,P.c h9⟩,P.t.kk.c0,P.t.kk.c1,P.t.kk.c2⟩
   clear t0 t1 t2 t3 t4 t5 t6 t7 t8 t9 k0 k1 J a K2 ze hS zi;go_loopw[6] (λi wr=>∃j:Nat,i=Iq j/\j<=n/\Hid (sW T K M cap W H n b B bc M0 S w0 w2 hf wr)) (λi _=>n-(intOf i).toNat);.exact⟨0,rfl,dg,P0⟩
   obtain⟨j,rfl,hj,P⟩:=hrel;obtain⟨⟨t0,t1,t2,t3,t4,t5,t7,t8,t9⟩,k0,k1,J⟩:=E wr P;by_cases d:j<n;.have C:(j:Int)<n:=dg;obtain⟨_,_,_,_,p4,⟨_,_,_,_,d4⟩,_⟩:=P.t.kk.cell d;obtain⟨sf,_,sc,_,rfl⟩:=P.s.2 j d;go_wp2;exact⟨⟨j+1,by go_num,dg,P.was _ _⟩,by simp only[intOf];omega⟩
   .have C:¬(j:Int)<n:=dg;clear P0 d hj;go_upto_region 12 with fail;have HE:Hid (Bq wr wr.drew):=Ok.drew;have PE:=qH (P.below HE);go_region_held(λu=>(u.cell? (aq T 0)=some (Pq K)/\u.cell? (aq T 1)=some (Iq x)/\u.cell? (aq T 2)=some (Iq y)/\u.cell? (aq T 3)=some (Iq f)/\u.cell? (aq T 4)=some (Iq g)/\u.cell? (aq T 5)=some (Iq o))/\u.cell? (aq K 0)=some (Iq W)/\u.cell? (aq K 1)=some (Iq H)) (go_keep) (first
     |(go_at_call 137;refine ag (WR.out _) ?_;rintro e u2 ⟨rfl,D⟩;have P2:=qH<|PE.out.below D;obtain⟨⟨a0,a1,a2,a3,a4,a5,_⟩,a6,a7,_⟩:=E.out u2 P2.out;clear D)
     |(go_at_call 136;refine ag (LQ P2.out.t.kk _ _ _ _ _ dg) ?_;rintro e u3 ⟨rfl,g3⟩;have P3:=qH<|P2.out.cells A.out.1 g3;obtain⟨⟨c0,c1,c2,c3,c4,c5,_⟩,c6,c7,_⟩:=E.out u3 P3.out;clear g3));all_goals
     clear P P2 PE HE t0 t1 t2 t3 t4 t5 t7 t8 t9 k0 k1 J;obtain⟨p,hp⟩:=af (y*W);have e1:(y:Int)*(W:Int)=(p:Int):=by rw[<-hp];simp
     have zj:p+x<n:=by rw[<-hp];exact Y.out
     clear hp Y;obtain⟨z,zg⟩:=af (p+x);have e2:(p:Int)+x=z:=dg;go_upto_region 13 with fail;go_quiet(fail);go_wp2;try rw[e2]
     rw[zg]at zj;clear e1 e2 zg;have P4:=qH (P3.below (below_drewN Ok nq));clear P3 a0 a1 a2 a3 a4 a5 a6 a7 c0 c1 c2 c3 c4 c5 c6 c7;go_loopw[8] (λi wr=>∃j:Nat,i=Iq j/\j<=n/\Hid (sW T K M cap W H n b B bc M0 S w0 w2 hf wr)) (λi _=>n-(intOf i).toNat);.exact⟨0,rfl,dg,P4⟩
     obtain⟨j,rfl,hj,P⟩:=hrel;obtain⟨⟨t0,t1,t2,t3,t4,t5,t7,t8,t9⟩,k0,k1,J⟩:=E _ P;by_cases d:j<n
     .have C:(j:Int)<n:=dg;obtain⟨_,_,_,_,p4,⟨_,_,_,_,d4⟩,_⟩:=P.t.kk.cell d;obtain⟨sf,_,sc,p5,rfl⟩:=P.s.2 j d;obtain⟨bf,_,zk,_,rfl⟩:=P.t.bb.2 j d;have V:Hid (∀q,sW T K M cap W H n b B bc M0 S w0 w2 hf (wr.drewN q)):=λq=>P.below (below_drewN Ok q);rcases(by omega:(j:Int)<z\/((z:Int)<=j/\(z:Int)+wd<=j)\/((z:Int)<=j/\(j:Int)<z+wd))with U|⟨U,h2⟩|⟨U,h2⟩;focus have X:((z:Int)<=(j:Int))=False:=eq_false dg;have b2:(z<=j)=False:=eq_false dg
      rotate_left;focus have X:decide ((z:Int)<=(j:Int))=true:=decide_eq_true U;have b2:decide ((j:Int)<(z:Int)+wd)=false:=decide_eq_false dg
      rotate_left;focus have X:decide ((z:Int)<=(j:Int))=true:=decide_eq_true U;have b2:decide ((j:Int)<(z:Int)+wd)=true:=decide_eq_true h2
      rotate_left;all_goals
       rcases(by omega:p5=p4\/p5≠p4)with rfl|e5;all_goals
        try have zh:(p5 !=p4)=true:=by simpa using e5
        try have zh:(p5 !=p5)=false:=At
        go_wp2_with fail;go_quiet(fail);have zw:(wr.drewN nq).cell? (aq T 9)=some (Sq B n bc):=t9;go_wp2;all_goals first
         |exact⟨⟨j+1,by go_num,dg,(V _).setB _ _⟩,by simp only[intOf];omega⟩
         |exact⟨⟨j+1,by go_num,dg,V _⟩,by simp only[intOf];omega⟩
     .have C:¬(j:Int)<n:=dg;have f1:=P.t.fz 1 dg;have f7:=P.t.fz 7 dg;have f8:=P.t.fz 8 dg;go_wp2;go_end0;exact⟨rfl,K,M,cap,b,((P.t.setT 7 _ (nw _ dg K) (.inl rfl)).setT 8 _ (nw _ dg K) (.inl rfl)).setT 1 _ (nw _ dg K) (.inl rfl),⟨b4,dg⟩,((P.k.set _ _ _ (.inl rfl)).set _ _ _ (.inl rfl)).set _ _ _ (.inl rfl),A⟩
  .go_quiet(fail);go_wp2;refine bodyPost_ret (results_none rfl _ _ _) rfl ?_;exact⟨rfl,K,M,cap,b,a.below (below_drewN Ok _),⟨b4,dg⟩,K2.below (below_drewN Ok _),A⟩
end
def OT:(prog.info? 119).map (λi=>(i.zero,i.size,i.bytes))=some (some (.agg #[.string ⟨#[]⟩,Iq 0,Iq 0,Iq 0,Iq 0]),5,48):=pt
def Uh{n b i:Nat}(c:1<=b):∀j u,[Value.string ⟨#[32]⟩,Iq 0,Iq 0,Iq 0,Iq 0][j]?=some u->xU n b (i*5+j) u:=λj u a=>by
 match j,a with
 |0,a=>simp at a;subst a;exact⟨λ_=>⟨_,rfl,c⟩,λh=>dg⟩
 |1,a=>simp at a;subst a;exact⟨λh=>dg,λ_=>⟨0,rfl,λ_=>dg⟩⟩
 |2,a=>simp at a;subst a;exact⟨λh=>dg,λ_=>⟨0,rfl,λ_=>dg⟩⟩
 |3,a=>simp at a;subst a;exact⟨λh=>dg,λ_=>⟨0,rfl,λ_=>dg⟩⟩
 |4,a=>simp at a;subst a;exact⟨λh=>dg,λ_=>⟨0,rfl,λ_=>dg⟩⟩
def KR.low{w:AT}{B n s k:Nat}{e:TypeId}{v:Fd}{P:Nat->Fd->Prop}(h:KR w B e s v n P)(m:k<B)(o:Nat)(u:Fd):KR (w.setCell (aq k o) u) B e s v n P:=by
 obtain⟨l,h,j⟩:=h;refine⟨l,⟨h.1,?_⟩,j⟩;rcases h.2 with i|⟨g,cap,f,a,b,c,d⟩;.exact .inl i
 .exact .inr ⟨g,cap,f,a,b,(aM w (aq k o) u g (by show g≠k;omega)).trans c,d⟩
def Xf(W H:Int)(b:Nat)(w:AT)(e:Ending)(w':AT):Prop:=(e=Rw (.tuple #[.pointer none,Iq 6])/\w'=w/\¬(1<=W/\W<=400/\1<=H/\H<=400))\/∃(K M cap W' H' n:Nat),e=Rw (.tuple #[Pq K,Iq 0])/\W=W'/\H=H'/\KK K M cap W' H' n b w'/\w.heap.size<=K/\w.heap.size<=M/\Bq w w'
def Hk(W H:Int)(b:Nat)(D:1<=b)(w:AT):Cw 40 #[Iq W,Iq H] w λe w'=>Xf W H b w e w':=by
 obtain⟨Y,hi,x,y,z⟩:=info_parts OT;by_cases t:1<=W/\W<=400/\1<=H/\H<=400
 .obtain⟨w1,w2,q,r⟩:=t;obtain⟨W,rfl⟩:=db (by omega:0<=W);obtain⟨H,rfl⟩:=db (by omega:0<=H);obtain⟨n,o⟩:=af (W*H);have nb:1<=n/\n<=160000:=by rw[<-o];exact⟨ik (by omega:1<=W) (by omega:1<=H),ik (by omega:W<=400) (by omega:H<=400)⟩
  have Q:(W:Int)*(H:Int)=(n:Int):=by rw[<-o];simp
  have E:=qH o;clear o;obtain⟨S,hS⟩:=af w.heap.size;obtain⟨m,a⟩:=af (w.alloc (.cells #[Iq W,Iq H,.slice none 0 0] 116));have J:Hid (m.heap[S]?=some (.cells #[Iq W,Iq H,.slice none 0 0] 116 (0,0))/\Bq w m/\S+1<=m.heap.size):=by rw[<-a,<-hS];exact⟨heap_alloc_new _ _,No,At⟩
  have A:=qH hS;go_enter func40,ntmps40;go_wp2_with fail;try rw[a]
  try rw[hS]
  clear a hS;go_loopw[7] (λi wr=>∃(j:Nat) (v:Fd),i=Iq j/\j<=n/\Hid (wr.heap[S]?=some (.cells #[Iq W,Iq H,v] 116 (0,0))/\Bq w wr/\S+1<=wr.heap.size)/\Hid (KR wr (S+1) 119 5 v j (xU n b))) (λi _=>n-(intOf i).toNat);.exact⟨0,_,rfl,dg,J,KR.nil _ _ _ _ _⟩
  obtain⟨j,v,rfl,X,d,C⟩:=hrel;obtain⟨L,c1,c2,R⟩:=vO d.1;by_cases O:j<n;.have l:(j:Int)<n:=dg;have s:Below (S+1) wr wr:=Ok;have u:=d.2.2;go_wp2_with(at_builtin;refine Pb (W0:=wr) (w:=wr) hi x y z C.out s u [.string ⟨#[32]⟩,Iq 0,Iq 0,Iq 0,Iq 0] rfl _ _ rfl underlying34 ⟨rfl,by decide,by decide⟩ rfl rfl rfl ⟨rfl,rfl⟩ dg (Uh D) ?_;intro Z w6 p c _;obtain⟨vp,vc,rfl,_⟩:=p.sl;have f:=qH ((c.block S dg).trans d.out.1);obtain⟨d0,d1,d2,P⟩:=vO f.out;have G:=qH p;have k:=qH c;clear p c);have hS:=A.out;exact⟨⟨j+1,_,by go_num,dg,⟨heap_setCell_same _ S 2 _ _ _ f,(d.2.1.trans (k.mono dg)).setCell (by show _<=S;omega) _,by have:=k.size;simp[World.setCell];omega⟩,G.low dg _ _⟩,by simp only[intOf];omega⟩
  .have l:¬(j:Int)<n:=dg;obtain rfl:j=n:=dg;go_wp2;go_ret2;have hS:=A.out;obtain⟨g,cap,rfl,V,I⟩:=C.kb dg;exact .inr ⟨S,g,cap,W,H,j,rfl,rfl,rfl,⟨L,c1,c2,⟨dg,dg,dg,dg,E.symm,D⟩,dg,I⟩,dg,dg,d.2.1⟩
 .rcases(by omega:W<1\/(1<=W/\400<W)\/(1<=W/\W<=400/\H<1)\/(1<=W/\W<=400/\1<=H/\400<H))with h|⟨q,r⟩|⟨q,r,N⟩|⟨q,r,N,U⟩;all_goals go_enter func40,ntmps40;go_wp2;go_ret2;exact .inl ⟨rfl,rfl,dg⟩
def Rn{K M cap W H n b i:Nat}{w:AT}(h:KK K M cap W H n i w)(o:1<=b)(u:AT):Cw 40 #[Iq W,Iq H] u λe w'=>∃c d a,e=Rw (.tuple #[Pq c,Iq 0])/\KK c d a W H n b w'/\u.heap.size<=c/\u.heap.size<=d/\Bq u w':=by obtain⟨x,y,z,A,r,_⟩:=h.sz;refine(Hk W H b o u).mono λe w' q=>?_;obtain⟨c,d,a,g,f,p,rfl,s,t,k,j,l,m⟩:=q.resolve_left λq=>q.2.2 dg;obtain rfl:W=g:=dg;obtain rfl:H=f:=dg;obtain rfl:n=p:=r.trans k.sz.2.2.2.2.1.symm;exact⟨c,d,a,rfl,k,j,l,m⟩
