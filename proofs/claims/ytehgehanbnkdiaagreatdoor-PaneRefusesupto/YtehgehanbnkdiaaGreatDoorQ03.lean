import Derived.Test.YtehgehanbnkdiaaGreatDoorQ02
import Derived.Deep.OwnRows
import Derived.Deep.CutRange
import Derived.Deep.RegionWith
set_option linter.all false
set_option maxRecDepth 100000
set_option maxHeartbeats 16000000
namespace Go.Proofs.YtehgehanbnkdiaaGreatDoor
open Go.RowKit Go.Proofs.Tryz
def KQ(w:AT)(v:Fd)(n:Nat)(S:Nat->BY)(X:zzb):Prop:=n<=1000000/\∃p cap,n<=cap/\v=.slice p n cap/\∀k,k<n->((S k).size<=20/\0<=X k/\X k<=2)/\∃(g o:Nat),p=some (aq g o)/\g<w.heap.size/\∀W,Bq w W->W.cell? (aq g (o+k*2))=some (.string (S k))/\W.cell? (aq g (o+k*2+1))=some (Iq (X k))
def Kb(X:zzb):Nat->Int
 |0=>0
 |k+1=>Kb X k+X k
def Gk(S:Nat->BY):Nat->BY
 |0=>⟨#[]⟩
 |k+1=>Gk S k++S k
def Jg{X:zzb}:∀{k:Nat},(∀j,j<k->0<=X j/\X j<=2)->0<=Kb X k/\Kb X k<=2*k
 |0,_=>⟨ie _,ie _⟩
 |k+1,h=>by have a:=Jg λj (b:j<k)=>h j dg;grind[Kb]
def pi{S:Nat->BY}:∀{k:Nat},(∀j,j<k->(S j).size<=20)->(Gk S k).size<=20*k
 |0,_=>LE
 |k+1,h=>by have a:=pi λj (b:j<k)=>h j dg;grind[Gk]
def KS(b:Nat)(e:Ending):Prop:=∃s:BY,e=Rw (.string s)/\s.size<=b
def vG{w:AT}{v:Fd}{n:Nat}{S:Nat->BY}{X:zzb}(h:KQ w v n S X)(W:AT)(m:Bq w W):
 Cw 277 #[v] W λe w'=>e=Rw (Iq (Kb X n))/\w'=W:=by
 obtain⟨z,a,l,_,rfl,c⟩:=h;replace c:=qH c;go_enter func277,ntmps277;go_wp2;go_loop[3,4] (λs i=>∃(k:Nat) (x:Int),s=Iq x/\i=Iq k/\k<=n/\Hid (x=Kb X k)/\0<=x/\x<=2*k) (λ_ i=>n-(intOf i).toNat);.exact⟨0,0,rfl,rfl,dg,rfl,dg,dg⟩
 obtain⟨k,x,rfl,rfl,u,d,A,B⟩:=hrel;by_cases f:k<n
 .have b:(k:Int)<n:=dg;obtain⟨⟨_,p,q⟩,g,o,rfl,t,H⟩:=c k f;obtain⟨r,c1⟩:=H W m;have j:Hid (x+X k=Kb X (k+1)):=qH<|by rw[d.out];rfl
  generalize X k=y at c1 p q j;clear H d;go_wp2;go_round;.exact⟨k+1,_,rfl,by go_num,dg,j,dg,dg⟩
  grind[intOf]
 .have b:¬(k:Int)<n:=dg;obtain rfl:k=n:=dg;go_wp2;go_ret;exact⟨by rw[<-d.out];rfl,rfl⟩
def vF{w:AT}{v:Fd}{n:Nat}{S:Nat->BY}{X:zzb}(h:KQ w v n S X)(W:AT)(p:Bq w W):
 Cw 278 #[v] W λe w'=>e=Rw (.string (Gk S n))/\w'=W:=by
 obtain⟨x,a,m,_,rfl,c⟩:=h;replace c:=qH c;go_enter func278,ntmps278;go_wp2;go_loop[3,4] (λs i=>∃(k:Nat) (T:BY),s=.string T/\i=Iq k/\k<=n/\Hid (T=Gk S k)/\T.size<=20*k) (λ_ i=>n-(intOf i).toNat);.exact⟨0,_,rfl,rfl,dg,rfl,by decide⟩
 obtain⟨k,T,rfl,rfl,u,d,r⟩:=hrel;by_cases f:k<n
 .have b:(k:Int)<n:=dg;obtain⟨⟨q,_⟩,g,o,rfl,t,H⟩:=c k f;obtain⟨l,c1⟩:=H W p;have j:Hid (T++S k=Gk S (k+1)):=qH<|by rw[d.out];rfl
  generalize S k=s at l q j;clear H d;go_wp2;go_round;.grind
  grind[intOf]
 .have b:¬(k:Int)<n:=dg;obtain rfl:k=n:=dg;go_wp2;go_ret;exact⟨by rw[<-d.out];rfl,rfl⟩
def PU:Nat->BY
 |0=>⟨#[]⟩
 |k+1=>PU k++⟨#[32]⟩
def o6:∀k,(PU k).size=k
 |0=>rfl
 |k+1=>by unfold PU;rw[kG,o6 k];rfl
def Bp(n:Nat)(h:n<=100000)(W:AT):
 Cw 222 #[Iq n] W λe w'=>e=Rw (.string (PU n))/\w'=W:=by
 go_enter func222,ntmps222;go_wp2;go_loop[3,4] (λt i=>∃(k:Nat) (T:BY),t=.string T/\i=Iq k/\k<=n/\Hid (T=PU k)/\T.size<=k) (λ_ i=>n-(intOf i).toNat);.exact⟨0,_,rfl,rfl,dg,rfl,by decide⟩
 obtain⟨k,T,rfl,rfl,g,b,d⟩:=hrel;by_cases f:k<n
 .have a:(k:Int)<n:=dg;have c:Hid (T++⟨#[32]⟩=PU (k+1)):=qH<|by rw[b.out];rfl
  clear b;go_wp2;go_round;.exact⟨k+1,_,rfl,by go_num,dg,c,by rw[kG];exact Nat.add_le_add d (by decide)⟩
  grind[intOf]
 .have a:¬(k:Int)<n:=dg;obtain rfl:k=n:=dg;go_wp2;go_ret;exact⟨by rw[<-b.out];rfl,rfl⟩
def KF(S:Nat->BY)(X:zzb)(n:Nat)(w:Int)(e:Ending):Prop:=∃m:Nat,e=Rw (Iq m)/\m<=n/\(m=0->0<n->((S 0).toList==[10])=false->w<X 0)
def OZ{w:AT}{p:zze}{n a:Nat}{S:Nat->BY}{X:zzb}(h:KQ w (.slice p n a) n S X)(x:Int)(W:AT)(q:Bq w W):
 Cw 279 #[.slice p n a,Iq x] W λe w'=>KF S X n x e/\w'=W:=by
 obtain⟨I,u,b,_,r,f⟩:=h;obtain⟨rfl,rfl⟩:p=u/\a=b:=rn;replace f:=qH f;clear r;go_enter func279,ntmps279;go_wp2;go_loop[5,6] (λi s=>∃(k:Nat) (y:Int),i=Iq k/\s=Iq y/\k<=n/\0<=y/\y<=2*k/\(k=0->y=0)) (λi _=>n-(intOf i).toNat);.grind
 obtain⟨k,y,rfl,rfl,G,J,K,l⟩:=hrel;replace l:=qH l;by_cases j:k<n;.have c:(k:Int)<n:=dg;obtain⟨⟨t,v,A⟩,g,o,rfl,F,H⟩:=f k j;obtain⟨m,c1⟩:=H W q;clear H;have d:Hid (k=0->S 0=S k/\X 0=X k/\y=0):=λh=>rn;generalize S k=s at m t d;generalize X k=z at c1 v A d;go_wp2;all_goals first
   |(go_ret;refine⟨⟨k,rfl,dg,λh _ E=>?_⟩,rfl⟩;obtain⟨B,C,rfl⟩:=d h;grind)
   |exact⟨⟨k+1,_,by go_num,rfl,dg,dg,dg,λh=>dg⟩,by simp only[intOf];omega⟩
 .have c:¬(k:Int)<n:=dg;go_wp2;go_ret;exact⟨⟨k,rfl,dg,λh D=>dg⟩,rfl⟩
def KQ.sub{w:AT}{g o n b:Nat}{S:Nat->BY}{X:zzb}(h:KQ w (.slice (some (aq g o)) n b) n S X)(a m:Nat)(s:a+m<=n):KQ w (.slice (if b=a then some (aq g o)else some (aq g (o+a*2))) m (b-a)) m (λk=>S (a+k)) (λk=>X (a+k)):=by
 obtain⟨v,r,c,t,p,d⟩:=h;obtain⟨rfl,rfl⟩:some (aq g o)=r/\b=c:=by simpa using p
 refine⟨dg,_,_,dg,rfl,λk u=>?_⟩;rw[if_neg dg];obtain⟨j,f,q,e,i,H⟩:=d (a+k) dg;obtain⟨rfl,rfl⟩:g=f/\o=q:=by simpa using e
 refine⟨j,g,_,rfl,i,λW l=>?_⟩;have:=H W l;rwa[show o+(a+k)*2=o+a*2+k*2 by omega]at this
def pP{w:AT}{B:Nat}{t:TypeId}{f g i j k a b c d e:Fd}(h:w.heap[B]?=some (.cells #[f,g,i,j,k] t (0,0))):
 (((((w.setCell (aq B 0) a).setCell (aq B 1) b).setCell (aq B 2) c).setCell (aq B 3) d).setCell (aq B 4) e).heap[B]?=some (.cells #[a,b,c,d,e] t (0,0)):=by rw[heap_setCell_same _ _ _ _ _ _ (heap_setCell_same _ _ _ _ _ _ (heap_setCell_same _ _ _ _ _ _ (heap_setCell_same _ _ _ _ _ _ (heap_setCell_same _ _ _ _ _ _ h))))];rfl
def yO{fn:Func}{p u:Nat}{c:TypeId}(h:fn.results=#[.cell p c,.tmp u])(a:Array Fd)(P:Program)(w:AT)(g:Nat)(b:Array Fd)(e:a.getD p undef=Pq g)(d:(loadVar c (aq g 0)).run P w=.ok (.agg b) w):(results fn a).run P w=.ok (.tuple #[.agg b,a.getD u undef]) w:=by rw[results_cell_tmp h,e];simp[asAddr,d]
def S3(n a:Nat)(e:Ending):Prop:=∃(s:BY) (b c d f:Int) (y:Nat),e=Rw (.tuple #[.agg #[.string s,Iq b,Iq c,Iq d,Iq f],Iq y])/\s.size<=80000/\(f=3\/a<y/\y<=n)
def Rm{w:AT}{g o n b:Nat}{S:Nat->BY}{X:zzb}(h:KQ w (.slice (some (aq g o)) n b) n S X)(hn:n<=4000)(a:Nat)(ha:a<=n)(x:Int)(hx:1<=x)(W:AT)(hW:Bq w W):
 Cw 276 #[.slice (some (aq g o)) n b,Iq a,Iq x] W λe w'=>S3 n a e/\Bq W w':=by
 obtain⟨pp,zg⟩:=af (if b=a then some ((aq g o):Addr)else some (aq g (o+a*2)));have HS:Hid (∀m,a+m<=n->KQ w (.slice pp m (b-a)) m (λk=>S (a+k)) (λk=>X (a+k))):=λm hm=>by rw[<-zg];exact h.sub a m hm
 have zj:n<=b:=by obtain⟨_,_,_,hc,he,_⟩:=h;have:=(by simpa using he:_/\b=_).2;omega
 have zl:(a:Int)<=n:=dg;have zn:prog.follows .mixedOrders=true:=pt;have E:Hid (∀k,k<n->(S k).size<=20/\0<=X k/\X k<=2):=by obtain⟨_,_,_,_,_,H⟩:=h;exact λk hk=>(H k hk).1
 have HC:Hid (∀k,k<n->∀U,Bq w U->U.cell? (aq g (o+k*2))=some (.string (S k))):=by
  obtain⟨_,_,_,_,he,H⟩:=h;intro k hk U t;obtain⟨_,g',o',e,_,H2⟩:=H k hk;simp only[sK]at he;rw[<-he.1]at e;obtain⟨rfl,rfl⟩:g=g'/\o=o':=by simpa using e
  exact(H2 U t).1
 clear h;have L:Bq W (W.alloc (.cells #[.string ⟨#[]⟩,Iq 0,Iq 0,Iq 0,Iq 0] 309)):=No;have ze:=hW.size;go_enter func276,ntmps276;go_wp2_with fail;refine(OZ (HS (n-a) dg) x _ (hW.trans (L.mono ze))).mono ?_;rintro e M ⟨⟨m,rfl,hm,HF⟩,rfl⟩;replace HF:=qH HF;have l:=qH (HS m dg);obtain⟨J,I⟩:=af (Gk (λk=>S (a+k)) m);obtain⟨Z,hZ⟩:=af (Kb (λk=>X (a+k)) m);have C:J.size<=80000:=by rw[<-I];have:=pi (S:=λk=>S (a+k)) (k:=m) λj hj=>(E (a+j) dg).1;omega
 have T1:Hid (∀U,Bq w U->Cw 278 #[.slice pp m (b-a)] U λe K=>e=Rw (.string J)/\K=U):=λU t=>by rw[<-I];exact vF l U t
 have W1:Hid (∀U,Bq w U->Cw 277 #[.slice pp m (b-a)] U λe K=>e=Rw (Iq Z)/\K=U):=λU t=>by rw[<-hZ];exact vG l U t
 clear I hZ l;obtain⟨M,u⟩:=af (W.alloc (.cells #[.string ⟨#[]⟩,Iq 0,Iq 0,Iq 0,Iq 0] 309));rw[u]at L|-;have r0:Hid (M.heap[W.heap.size]?=some (.cells #[.string ⟨#[]⟩,Iq 0,Iq 0,Iq 0,Iq 0] 309 (0,0))):=qH<|by rw[<-u];simp only[World.alloc];rw[sL,if_pos rfl]
 have zh:W.heap.size<M.heap.size:=by rw[<-u,ai];omega
 have s:Bq w M:=hW.trans (L.mono ze);clear u;obtain⟨q,hq⟩:∃q:Nat,a+m=q:=⟨_,rfl⟩;have zw:(a:Int)+m=q:=dg;have zo:(q:Int)<=b:=dg;have zq:a<=q:=dg;have zr:q-a=m:=dg;replace hq:=qH hq;go_wp2_with fail;go_cut[10]from 12 to 32 (λp wx=>∃B,p=Pq B/\M.heap.size<=B/\wx.heap[B]?=some (.cells #[.string J,Iq Z,Iq a,Iq m,Iq 0] 309 (0,0))/\Bq M wx)
 .go_region_with(first|(go_at_call 278;refine Ut (T1 _ (by first|exact s.drew|exact(s.alloc dg _).drew)) ?_;rintro wq rfl)|(go_at_call 277;refine Ut (W1 _ (by first|exact s.drew|exact(s.alloc dg _).drew)) ?_;rintro wq rfl));all_goals(go_wp2_with fail)
  all_goals go_meet
  all_goals exact⟨_,rfl,LE,by simp only[World.drew,World.alloc];rw[sL,if_pos rfl],No.drew⟩
 obtain⟨B,rfl,hB,c,y⟩:=hcut;have Q:B≠W.heap.size:=dg;have d:=(y.block _ zh).trans r0;have A:=qH (s.trans (y.mono s.size));have D:=qH (L.trans (y.mono L.size));have q0:wc.cell? (aq B 0)=some (.string J):=by simp[World.cell?,c]
 have q1:wc.cell? (aq B 1)=some (Iq Z):=by simp[World.cell?,c]
 have q2:wc.cell? (aq B 2)=some (Iq a):=by simp[World.cell?,c]
 have q3:wc.cell? (aq B 3)=some (Iq m):=by simp[World.cell?,c]
 have q4:wc.cell? (aq B 4)=some (Iq 0):=by simp[World.cell?,c]
 have fr:∀j,wc.frozen? (aq B j)=false:=λj=>frozen_of_row _ _ _ _ _ c;have V:W.heap.size<=B:=dg;obtain⟨R,hR⟩:=af W.heap.size;have O:Hid (R=W.heap.size):=hR.symm;rw[hR]at d Q V|-;have p0:wc.cell? (aq R 0)=some (.string ⟨#[]⟩):=by simp[World.cell?,d]
 have p1:wc.cell? (aq R 1)=some (Iq 0):=by simp[World.cell?,d]
 have p2:wc.cell? (aq R 2)=some (Iq 0):=by simp[World.cell?,d]
 have p3:wc.cell? (aq R 3)=some (Iq 0):=by simp[World.cell?,d]
 have p4:wc.cell? (aq R 4)=some (Iq 0):=by simp[World.cell?,d]
 have fR:∀j,wc.frozen? (aq R j)=false:=λj=>frozen_of_row _ _ _ _ _ d;have f:Hid (∀(wz:AT) (v0 v1 v2 v3 v4:Fd),Bq W wz->Bq W (((((wz.setCell (aq R 0) v0).setCell (aq R 1) v1).setCell (aq R 2) v2).setCell (aq R 3) v3).setCell (aq R 4) v4)):=λwz v0 v1 v2 v3 v4 h=>by have hl:∀j,W.heap.size<=((aq R j):Addr).block:=λj=>xI O.out.symm;exact((((h.setCell (hl 0) _).setCell (hl 1) _).setCell (hl 2) _).setCell (hl 3) _).setCell (hl 4) _
 have r:Hid (∀v,(wc.setCell (aq B 4) v).heap[R]?=some (.cells #[.string ⟨#[]⟩,Iq 0,Iq 0,Iq 0,Iq 0] 309 (0,0))/\Bq W (wc.setCell (aq B 4) v)):=λv=>⟨by rw[heap_setCell_other _ _ _ _ (λe=>Q e.symm)];exact d,D.setCell (by rw[<-O.out];exact V) _⟩;have F:Hid (wc.heap[R]?=some (.cells #[.string ⟨#[]⟩,Iq 0,Iq 0,Iq 0,Iq 0] 309 (0,0))):=d;clear c d T1 W1 r0 y hR L;have zx:q<=n:=by have:=hq.out;omega
 by_cases zi:q=n;.have zv:(q:Int)=n:=dg;go_wp2;refine bodyPost_ret (yO rfl _ _ _ R _ rfl (run_loadVar_row _ _ _ _ _ _ _ (pP (r _).1) underlying309 rfl pt)) rfl ?_;exact⟨⟨J,Z,a,m,3,q,rfl,C,.inl rfl⟩,f _ _ _ _ _ _ (r _).2⟩
 have zt:(q:Int)<n:=dg;have zu:¬(q:Int)=n:=dg;have c0:=HC q dg wc A;have N:Hid (m=0->((S q).toList==[10])=false->x=1):=λh h2=>by have e:=hq.out;rw[h,qC]at e;subst e;have:=HF h dg h2;have:=(E a dg).2.2;simp only[qC]at*;omega
 generalize S q=T at c0 N;by_cases G:(T.toList==[10])=true;.go_wp2;refine bodyPost_ret (yO rfl _ _ _ R _ rfl (run_loadVar_row _ _ _ _ _ _ _ (pP (r _).1) underlying309 rfl pt)) rfl ?_;exact⟨⟨J,Z,a,m,2,q+1,rfl,C,.inr ⟨dg,dg⟩⟩,f _ _ _ _ _ _ (r _).2⟩
 replace G:(T.toList==[10])=false:=by simpa using G
 by_cases h0:m=0;.obtain rfl:=N h0 G;subst h0;go_wp2_with(go_at_call 222;refine Ut (Bp 1 dg _) ?_;rintro w5 rfl);refine bodyPost_ret (yO rfl _ _ _ R _ rfl (run_loadVar_row _ _ _ _ _ _ _ (pP F) underlying309 rfl pt)) rfl ?_;exact⟨⟨_,1,a,1,1,q+1,rfl,by rw[o6];omega,.inr ⟨dg,dg⟩⟩,f _ _ _ _ _ _ D⟩
 have zk:((m:Int)==0)=false:=by simpa using h0
 by_cases P:(T.toList==[32])=true;.go_wp2;refine bodyPost_ret (yO rfl _ _ _ R _ rfl (run_loadVar_row _ _ _ _ _ _ _ (pP F) underlying309 rfl pt)) rfl ?_;exact⟨⟨J,Z,a,m,0,q+1,rfl,C,.inr ⟨dg,dg⟩⟩,f _ _ _ _ _ _ D⟩
 replace P:(T.toList==[32])=false:=by simpa using P
 go_wp2;go_loop[11] (λi=>∃z:Int,i=Iq z/\(a:Int)-1<=z/\z<q) (λi=>(intOf i+1-a).toNat);.exact⟨_,rfl,dg,dg⟩
 obtain⟨z,rfl,z1,z2⟩:=hrel;by_cases hz:(a:Int)<=z
 .obtain⟨j,rfl⟩:=db (by omega:0<=z);have d0:=HC j dg wc A;generalize S j=U at d0;by_cases t:(U.toList==[32])=true
  .have l:=qH (HS (j-a) dg);obtain⟨J2,I⟩:=af (Gk (λk=>S (a+k)) (j-a));obtain⟨Z2,hZ⟩:=af (Kb (λk=>X (a+k)) (j-a));have Y:J2.size<=80000:=by rw[<-I];have:=pi (S:=λk=>S (a+k)) (k:=j-a) λi hi=>(E (a+i) dg).1;omega
   have T2:Hid (∀U,Bq w U->Cw 278 #[.slice pp (j-a) (b-a)] U λe K=>e=Rw (.string J2)/\K=U):=λU t=>by rw[<-I];exact vF l U t
   have W2:Hid (∀U,Bq w U->Cw 277 #[.slice pp (j-a) (b-a)] U λe K=>e=Rw (Iq Z2)/\K=U):=λU t=>by rw[<-hZ];exact vG l U t
   have zm:(j:Int)<=b:=dg;have u:IntKind.i64.wrap ((j:Int)-a)=(j:Int)-a:=IntWalk.i64_in _ ⟨dg,dg⟩;have zy:IntKind.i64.wrap ((j:Int)+1)=(j:Int)+1:=IntWalk.i64_in _ ⟨dg,dg⟩;clear I hZ l;go_wp2_with fail;go_region_with(first|(go_at_call 278;refine Ut (T2 _ A.drew) ?_;rintro wq rfl)|(go_at_call 277;refine Ut (W2 _ A.drew) ?_;rintro wq rfl));all_goals(go_wp2_with fail)
   all_goals refine bodyPost_ret (yO rfl _ _ _ R #[.string J2,Iq Z2,Iq a,Iq _,Iq 0] rfl (run_loadVar_row _ _ _ _ _ _ _ (pP F) underlying309 rfl pt)) rfl ?_;exact⟨⟨J2,Z2,a,_,0,j+1,rfl,Y,.inr ⟨dg,dg⟩⟩,(f _ _ _ _ _ _ D).drew⟩
  .replace t:(U.toList==[32])=false:=by simpa using t
   go_wp2;exact⟨⟨_,rfl,dg,dg⟩,by simp only[intOf];omega⟩
 .go_wp2;refine bodyPost_ret (yO rfl _ _ _ R _ rfl (run_loadVar_row _ _ _ _ _ _ _ (pP (r _).1) underlying309 rfl pt)) rfl ?_;exact⟨⟨J,Z,a,m,1,q,rfl,C,.inr ⟨dg,dg⟩⟩,f _ _ _ _ _ _ (r _).2⟩
def Ku(s:BY)(i:Nat)(h:i<s.size):0<=((s[i]'h).toNat:Int)/\((s[i]'h).toNat:Int)<256:=by have:=(s[i]'h).toNat_lt;omega
def Xe(s:BY)(i:Nat)(e:Ending):Prop:=∃b,e=Rw (.bool b)/\(b=true->i<s.size)
def NO(s:BY)(i:Nat)(lo hi:Int)(w:AT)(c:s.size<=1125899906842624)(h:i<=1125899906842628):
 Cw 200 #[.string s,Iq i,.int .u8 lo,.int .u8 hi] w λe w'=>Xe s i e/\w'=w:=by
 by_cases hi:i<s.size;all_goals
  have a:=hi;try have a:(i:Int)<s.size:=dg
  try have a:¬(i:Int)<s.size:=dg
  have b:=qH hi;go_enter func200,ntmps200;go_wp2;all_goals go_ret;first|exact⟨⟨_,rfl,λ_=>b⟩,rfl⟩|exact⟨⟨_,rfl,λh=>by simp at h⟩,rfl⟩
def Xm(s:BY)(i:Nat)(e:Ending):Prop:=∃n:Nat,e=Rw (Iq n)/\n<=4/\i+n<=s.size
def O8(s:BY)(i:Nat)(hi:i<s.size)(w:AT)(f:s.size<=1125899906842624):
 Cw 124 #[.string s,Iq i] w λe w'=>Xm s i e/\w'=w:=by
 have g:=Ku s i hi;obtain⟨c,l⟩:=af ((s[i]'hi).toNat:Int);rw[l]at g;have m:(i:Int)<s.size:=dg;rcases(by omega:c<128\/(128<=c/\c<194)\/244<c\/(194<=c/\c<224)\/c=224\/(224<c/\c<237)\/c=237\/(237<c/\c<240)\/c=240\/(240<c/\c<244)\/c=244)with h|⟨h,a⟩|h|⟨h,a⟩|rfl|⟨h,a⟩|rfl|⟨h,a⟩|rfl|⟨h,a⟩|rfl;all_goals go_enter func124,ntmps124;go_wp2_with fail
 all_goals first
  |(go_ret;first|exact⟨⟨0,rfl,dg,dg⟩,rfl⟩|exact⟨⟨1,rfl,dg,dg⟩,rfl⟩)
  |skip
 all_goals
  refine(NO s (i+1) _ _ _ f dg).mono ?_;rintro e p ⟨⟨b,rfl,d⟩,rfl⟩;cases b;.go_wp2;go_ret;exact⟨⟨0,rfl,dg,dg⟩,rfl⟩
  have n:=d rfl;clear d;go_wp2;go_loop[10,11] (λk _=>∃j:Nat,k=Iq j/\2<=j/\j<=4/\i+j<=s.size) (λk _=>4-(intOf k).toNat);.exact⟨2,rfl,dg,dg,dg⟩
  obtain⟨j,rfl,q,r,t⟩:=hrel;go_wp2_with(go_at_call 200;refine(NO s (i+j) _ _ _ f dg).mono ?_;rintro e p ⟨⟨b,rfl,d⟩,rfl⟩;cases b);all_goals first
   |(go_ret;first|exact⟨⟨0,rfl,dg,dg⟩,rfl⟩|exact⟨⟨2,rfl,dg,dg⟩,rfl⟩|exact⟨⟨3,rfl,dg,dg⟩,rfl⟩|exact⟨⟨4,rfl,dg,dg⟩,rfl⟩)
   |(have o:=d At;go_round;(case rel=>exact⟨j+1,by go_num,dg,dg,dg⟩);grind[intOf])
def W9(w:AT)(s:BY)(e:Ending)(w':AT):Prop:=∃v n,e=Rw v/\n<=s.size/\(n=0->s.size=0)/\KR w' w.heap.size 3 1 v n KZ
def Br(s:BY)(w:AT)(C:s.size<=1099511627776):
 Cw 125 #[.string s] w λe w'=>W9 w s e w'/\Bq w w':=by
 obtain⟨D,hi,c,d,f⟩:=info_parts vB;go_enter func125,ntmps125;go_wp2;go_loopw[3,4] (λv i wr=>∃(z:Int) (n:Nat),i=Iq z/\(n:Int)<=z/\z<=s.size/\(n=0->z=0)/\KR wr w.heap.size 3 1 v n KZ/\Bq w wr) (λ_ i _=>s.size-(intOf i).toNat);.exact⟨0,0,rfl,dg,dg,dg,KR.nil _ _ _ _ _,Ok⟩
 obtain⟨z,n,rfl,B,A,p,g,l⟩:=hrel;obtain⟨j,rfl⟩:=db (by omega:0<=z);replace p:=qH p;by_cases o:j<s.size
 .have b:(j:Int)<s.size:=dg;go_wp2_with fail;refine(O8 s j o _ dg).mono ?_;rintro e H ⟨⟨q,rfl,F,G⟩,rfl⟩;rcases(by omega:q=0\/q=1\/q=2\/q=3\/q=4)with rfl|rfl|rfl|rfl|rfl
  .go_wp2_with(at_builtin;refine yK (W0:=w) hi c d f g l [Iq 65533] rfl _ _ rfl underlying26 ⟨rfl,by decide,by decide⟩ rfl rfl rfl ⟨rfl,rfl⟩ dg (Pe ⟨_,rfl⟩) ?_);intro u y h a _;go_wp2;go_roundw;.exact⟨_,n+1,rfl,dg,dg,dg,h,a⟩
   grind[intOf]
  all_goals
   go_wp2;go_loop[6,7] (λr k=>∃(x:Int) (m:Nat),r=Iq x/\k=Iq m/\m<=4) (λ_ k=>4-(intOf k).toNat);.exact⟨_,1,rfl,rfl,dg⟩
   obtain⟨x,m,rfl,rfl,E⟩:=hrel;go_wp2_with(at_builtin;refine yK (W0:=w) hi c d f g l [Iq _] rfl _ _ rfl underlying26 ⟨rfl,by decide,by decide⟩ rfl rfl rfl ⟨rfl,rfl⟩ dg (Pe ⟨_,rfl⟩) ?_;intro u y h a _);all_goals first
    |exact⟨⟨_,m+1,rfl,by go_num,dg⟩,by simp only[intOf];omega⟩
    |exact⟨⟨_,n+1,rfl,dg,dg,dg,h,a⟩,by simp only[intOf];omega⟩
 .have b:¬(j:Int)<s.size:=dg;go_wp2;go_ret;exact⟨⟨_,n,rfl,dg,λe=>by have:=p e;omega,g⟩,l⟩
def KO(n:Nat)(e:Ending):Prop:=∃x y,e=Rw (.tuple #[Iq x,Iq y])/\(n=0->x=0)
def Hi(a b c p q:Int)(w:AT):
 Cw 271 #[.agg #[Iq a,Iq b,Iq c],Iq p,Iq q] w λe w'=>Db e/\Bq w w':=by go_enter func271,ntmps271;go_wp2;all_goals go_ret;exact⟨⟨_,rfl⟩,No⟩
def KW(w:AT)(v:Fd)(n:Nat):Prop:=∃p cap,v=.slice p n cap/\∀k,k<n->∃a b c g o,p=some (aq g o)/\g<w.heap.size/\∀W,Bq w W->W.cell? (aq g (o+k*3))=some (Iq a)/\W.cell? (aq g (o+k*3+1))=some (Iq b)/\W.cell? (aq g (o+k*3+2))=some (Iq c)
def kTotal{w:AT}{v:Fd}{n:Nat}(h:KW w v n)(F:n<=200)(p q:Int)(W:AT)(l:Bq w W):
 Cw 311 #[v,Iq p,Iq q] W λe w'=>Db e/\Bq W w':=by
 obtain⟨a,u,rfl,r⟩:=h;have A:=l.size;go_enter func311,ntmps311;go_wp2;go_loopw[7,8] (λs i wr=>∃(k:Nat) (x:Int),s=Iq x/\i=Iq k/\k<=n/\Bq W wr) (λ_ i _=>n-(intOf i).toNat);.exact⟨0,0,rfl,rfl,LT,Ok⟩
 obtain⟨k,x,rfl,rfl,E,d⟩:=hrel;by_cases j:k<n
 .have m:(k:Int)<(n:Int):=dg;obtain⟨a,b,c,g,o,rfl,D,H⟩:=r k j;obtain⟨C,c1,c2⟩:=H wr (l.trans (d.mono A));clear H;have B:=d.size;go_wp2_with fail;refine(Hi a b c p q _).mono ?_;rintro e G ⟨⟨y,rfl⟩,t⟩;have f:=d.trans (t.mono B);go_wp2;go_roundw;.exact⟨k+1,_,rfl,by go_num,dg,f⟩
  grind[intOf]
 .have z:¬(k:Int)<(n:Int):=dg;go_wp2;go_ret;exact⟨⟨_,rfl⟩,d⟩
def kOpen{w:AT}{v:Fd}{n:Nat}(h:KW w v n)(G:n<=200)(p q:Int)(W:AT)(j:Bq w W):
 Cw 310 #[v,Iq p,Iq q] W λe w'=>KO n e/\Bq W w':=by
 obtain⟨a,z,rfl,m⟩:=h;have B:=j.size;go_enter func310,ntmps310;go_wp2;go_loopw[8,9,10] (λs t i wr=>∃(k:Nat) (x y:Int),s=Iq x/\t=Iq y/\i=Iq k/\k<=n/\Hid (n=0->x=0)/\Bq W wr) (λ_ _ i _=>n-(intOf i).toNat);.exact⟨0,0,0,rfl,rfl,rfl,LT,λ_=>rfl,Ok⟩
 obtain⟨k,x,y,rfl,rfl,rfl,F,u,d⟩:=hrel;by_cases f:k<n
 .have l:(k:Int)<(n:Int):=dg;obtain⟨a,b,c,g,o,rfl,E,H⟩:=m k f;obtain⟨D,c1,c2⟩:=H wr (j.trans (d.mono B));clear H;have C:=d.size;have r:Hid (n≠0):=by show _≠_;omega
  go_wp2;all_goals
   go_roundw;.exact⟨k+1,_,_,rfl,rfl,by go_num,dg,λh=>absurd h r,d.alloc C _⟩
   grind[intOf]
 .have A:¬(k:Int)<(n:Int):=dg;go_wp2;go_ret2;exact⟨⟨_,_,rfl,u⟩,d⟩
def KP(n:Nat)(e:Ending):Prop:=∃x y,e=Rw (.tuple #[Iq x,Iq y])/\(n=0->y=0)
def kPoured{w:AT}{v:Fd}{n:Nat}(h:KW w v n)(s:n<=200)(r:Int)(W:AT)(l:Bq w W):
 Cw 270 #[v,Iq r] W λe w'=>KP n e/\Bq W w':=by
 have q:=qH<|kOpen h s;have t:=qH<|kTotal h s;have m:=l.size;obtain⟨a,A,rfl,HK⟩:=h;replace HK:=qH<|HK;go_enter func270,ntmps270;go_wp2;go_loopw[6] (λi wr=>∃z:Int,i=Iq z/\-1<=z/\z<=n/\Bq W wr) (λi _=>((n:Int)-intOf i).toNat);.exact⟨-1,rfl,dg,dg,Ok⟩
 obtain⟨z,rfl,N,O,f⟩:=hrel;have k:=qH<|f;have I:=f.size;have p:z=-1\/z=n\/∃j:Nat,j<n/\z=j:=by
  by_cases h:0<=z
  .by_cases F:z=n;.omega
   .exact .inr (.inr ⟨z.toNat,dg,dg⟩)
  .omega
 rcases p with rfl|rfl|⟨j,B,rfl⟩;rotate_left;.go_wp2;go_ret2;exact⟨⟨_,_,rfl,λ_=>rfl⟩,f⟩
 all_goals first
  |(go_wp2_with fail;refine(q _ _ _ (l.trans (f.mono m))).mono ?_)
  |(have C:(j:Int)<n:=dg;obtain⟨a,b,c,g,o,rfl,G,H⟩:=HK j B;obtain⟨E,c1,c2⟩:=H wr (l.trans (f.mono m));clear H;go_wp2_with fail;all_goals(first|(go_big_region;go_wp2_with fail;replace k:=k.drew;refine(q _ _ _ (l.trans (k.mono m))).mono ?_)|(go_roundw;(case rel=>exact⟨_,rfl,dg,dg,f⟩);grind[intOf])))
 all_goals
  rintro e L ⟨⟨K,J,rfl,D⟩,u⟩;have d:=k.trans (u.mono k.size);go_wp2_with(go_at_call 311;refine(t _ _ _ (l.trans (d.mono m))).mono ?_;rintro e M ⟨⟨y,rfl⟩,x⟩;replace d:=d.trans (x.mono d.size));all_goals first
   |(go_ret2;exact⟨⟨_,_,rfl,D⟩,d⟩)
   |(go_roundw;(case rel=>exact⟨_,rfl,dg,dg,d⟩);grind[intOf])
def KC(e:Ending):Prop:=∃x,e=Rw (Iq x)/\0<=x/\x<=100000
def Rc(x:Int):∃z,(0<=z/\z<=100000)/\∀w,Cw 213 #[Iq x] w λe w'=>e=Rw (Iq z)/\w'=w:=by
 refine⟨max 0 (min x 100000),dg,λw=>?_⟩;have a:Hid (∀z,z=max 0 (min x 100000)->Ending.returned (Iq z)=Rw (Iq (max 0 (min x 100000)))):=λz h=>by rw[h]
 go_enter func213,ntmps213;go_wp2;all_goals go_ret;exact⟨a _ dg,rfl⟩
def P6(x:Int)(w:AT):Cw 213 #[Iq x] w λe w'=>KC e/\w'=w:=by obtain⟨z,h,c⟩:=Rc x;exact(c w).mono λe w' ⟨a,b⟩=>⟨⟨z,a,h⟩,b⟩
def Rh(a b c:Int)(w:AT):
 Cw 267 #[.agg #[Iq a,Iq b,Iq c]] w λe w'=>(∃x y z,e=Rw (.agg #[Iq x,Iq y,Iq z]))/\Bq w w':=by go_enter func267,ntmps267;go_wp2_with(go_at_call 213;refine(P6 _ _).mono ?_;rintro e d ⟨⟨x,rfl,f,g⟩,rfl⟩);all_goals exact bodyPost_ret (v:=.agg #[Iq _,Iq _,Iq _]) (by simp[results,results267,go_sem];exact⟨rfl,rfl,rfl⟩) rfl ⟨⟨_,_,_,rfl⟩,(No.alloc At _).alloc (by simp;omega) _⟩
def Rp(r g:Int)(n:Nat)(b:n<=200)(w:AT):
 Cw 268 #[Iq r,Iq g,Iq n] w λe w'=>KC e/\w'=w:=by
 go_enter func268,ntmps268;go_wp2_with(go_at_call 213;refine(P6 _ _).mono ?_;rintro e c ⟨⟨x,rfl,d,f⟩,rfl⟩);rotate_left;.go_ret;exact⟨⟨_,rfl,dg,dg⟩,rfl⟩
 go_loop[7,9] (λr k=>∃(j:Nat) (x:Int),r=Iq x/\k=Iq j/\j<=n/\-100000<=x/\x<=100000) (λ_ k=>n-(intOf k).toNat);.exact⟨1,_,rfl,rfl,dg,dg,dg⟩
 obtain⟨j,x,rfl,rfl,a,h,i⟩:=hrel;go_wp2;all_goals first
  |(go_ret;exact⟨⟨_,rfl,dg,dg⟩,rfl⟩)
  |(go_round;(case rel=>exact⟨j+1,_,rfl,by go_num,dg,dg,dg⟩);grind[intOf])
def KL(B n:Nat)(e:Ending)(W:AT):Prop:=∃g c,e=Rw (Sq g n c)/\B<=g/\KB W g n KZ
def KT(z y k:Nat)(w wr:AT):Prop:=KB wr z k KZ/\KB wr y k KZ/\Below z w wr
def KT.set{z y k:Nat}{w wr:AT}(h:KT z y k w wr)(b j:Nat)(x:Int)(a:z<=b):KT z y k w (wr.setCell (aq b j) (Iq x)):=
 ⟨h.1.set _ _ _ λ_=>⟨_,rfl⟩,h.2.1.set _ _ _ λ_=>⟨_,rfl⟩,h.2.2.setCell a _⟩
def KT.below{z y k:Nat}{w wr W:AT}(h:KT z y k w wr)(a:Bq wr W):KT z y k w W:=
 ⟨h.1.below a,h.2.1.below a,h.2.2.trans (a.mono (Nat.le_of_lt h.1.1))⟩
def kShrunk{w:AT}{v:Fd}{n:Nat}(h:KW w v n)(O:n<=200)(r:Int)(W:AT)(A:Bq w W):
 Cw 269 #[v,Iq r] W λe w'=>KL W.heap.size n e w'/\Bq W w':=by
 have I:=A.size;obtain⟨a,D,rfl,m⟩:=h;replace m:=qH<|m;have G:=run_make_row' (P:=prog) 26 3 (Iq 0) 8 underlying26 vB rfl .i64 .i64 n dg dg;have qL:=qH<|KB.make (P:=KZ) W n 3 (Iq 0) λ_=>⟨_,rfl⟩;have C:Bq W (W.alloc (.cells (madeCells #[Iq 0] n) 3)):=(ac _ W).alloc LE _;go_enter func269,ntmps269;go_wp2;obtain⟨z,t⟩:=af W.heap.size;rw[t]at qL;have l:W.heap.size<=z:=dg;rw[t];clear t;go_loopw[6,7] (λs i wr=>∃(k:Nat) (x:Int),s=Iq x/\i=Iq k/\k<=n/\Hid (KB wr z n KZ/\Bq W wr)) (λ_ i _=>n-(intOf i).toNat);.exact⟨0,0,rfl,rfl,LT,qL,C⟩
 obtain⟨k,x,rfl,rfl,N,d⟩:=hrel;by_cases f:k<n
 .have B:(k:Int)<(n:Int):=dg;obtain⟨a,b,c,g,o,rfl,M,H⟩:=m k f;obtain⟨K,c1,c2⟩:=H wr (A.trans (d.2.mono I));clear H;obtain⟨f1,y,d1,_⟩:=d.1.2 k f;have F:g≠z:=dg;have J:z≠g:=dg;have p:Hid (∀x,KB (wr.setCell (aq z k) (Iq x)) z n KZ/\Bq W (wr.setCell (aq z k) (Iq x))):=λx=>⟨d.1.set _ _ _ λ_=>⟨_,rfl⟩,d.2.setCell (by show _<=z;omega) _⟩;go_wp2;go_roundw;.exact⟨k+1,_,rfl,by go_num,dg,p _⟩
  grind[intOf]
 .have E:¬(k:Int)<(n:Int):=dg;obtain⟨Q,rfl⟩:=xX wr;go_wp2;go_loopw[6,8] (λs i wr=>∃(x y:Int),s=Iq x/\i=Iq y/\-1<=y/\y<n/\Hid (KB wr z n KZ/\Bq W wr)) (λ_ i _=>(1+intOf i).toNat);.exact⟨_,_,rfl,rfl,dg,dg,d⟩
  obtain⟨x,y,rfl,rfl,R,S,d⟩:=hrel;by_cases L:0<=y;.obtain⟨j,rfl⟩:∃j:Nat,y=j:=⟨y.toNat,dg⟩;obtain⟨f1,u,d1,⟨q,rfl⟩⟩:=d.1.2 j dg;have p:Hid (∀x,KB (wr.setCell (aq z j) (Iq x)) z n KZ/\Bq W (wr.setCell (aq z j) (Iq x))):=λx=>⟨d.1.set _ _ _ λ_=>⟨_,rfl⟩,d.2.setCell (by show _<=z;omega) _⟩;go_wp2;all_goals first
    |(go_ret;exact⟨⟨z,n,rfl,l,d.1⟩,d.2⟩)
    |exact⟨⟨_,_,rfl,rfl,dg,dg,p _⟩,by grind[intOf]⟩
  .go_wp2;go_ret;exact⟨⟨z,n,rfl,l,d.1⟩,d.2⟩
def NV:(prog.info? 367).map (λi=>(i.zero,i.size,i.bytes))=some (some (.agg #[Iq 0,Iq 0,Iq 0]),3,24):=pt
def Ik{W:AT}{B n:Nat}{e:TypeId}{v:Fd}(h:KR W B e 3 v n KZ):KW W v n:=by
 by_cases o:0<n;.obtain⟨g,d,rfl,_,f,i⟩:=h.kb o;refine⟨_,d,rfl,λk l=>?_⟩;obtain⟨_,_,m,a,rfl⟩:=i (k*3) dg;obtain⟨_,_,c1,b,rfl⟩:=i (k*3+1) dg;obtain⟨_,_,c2,c,rfl⟩:=i (k*3+2) dg;refine⟨a,b,c,g,0,rfl,f,λq j=>?_⟩;rw[b_,j.cell (p:=(aq g _)) f,j.cell (p:=(aq g _)) f,j.cell (p:=(aq g _)) f];exact⟨m,c1,c2⟩
 .obtain rfl:n=0:=dg;obtain⟨r,h,_⟩:=h;rcases h.2 with⟨rfl,_⟩|⟨g,d,_,rfl,_⟩;.exact⟨none,0,rfl,λk l=>dg⟩
  .exact⟨_,d,rfl,λk l=>dg⟩
def KW.below{w w':AT}{v:Fd}{n:Nat}(h:KW w v n)(d:Bq w w'):KW w' v n:=by obtain⟨p,cap,rfl,h⟩:=h;refine⟨p,cap,rfl,λk i=>?_⟩;obtain⟨a,b,c,g,o,rfl,f,H⟩:=h k i;exact⟨a,b,c,g,o,rfl,zz006 f d.size,λW e=>H W (d.trans (e.mono d.size))⟩
def kSplit{w:AT}{v:Fd}{n:Nat}(h:KW w v n)(hn:n<=200)(T zi:Int)(W:AT)(hW:Below w.heap.size w W):
 Calls prog 203 #[Iq T,Iq zi,v] W λe w'=>KL W.heap.size n e w'/\Below W.heap.size W w':=by
 have hs:=hW.size;obtain⟨i0,hi,zq,zr,zt⟩:=info_parts NV;obtain⟨a,zv,rfl,HK⟩:=h;replace HK:=qH<|HK;go_enter func203,ntmps203;go_wp2;go_loopw[7,8,9] (λv s i wr=>∃(k:Nat) (x:Int),s=Iq x/\i=Iq k/\k<=n/\KR wr W.heap.size 367 3 v k KZ/\Below W.heap.size W wr) (λ_ _ i _=>n-(intOf i).toNat);.exact⟨0,0,rfl,rfl,LT,KR.nil _ _ _ _ _,Ok⟩
 obtain⟨k,x,rfl,rfl,hk,A,U⟩:=hrel;have B:=U.size;by_cases f:k<n
 .have t:(k:Int)<(n:Int):=dg;obtain⟨a,b,c,g,o,rfl,X,H⟩:=HK k f;obtain⟨c0,c1,c2⟩:=H wr (hW.trans (U.mono hs));clear H;go_wp2_with fail;refine(Rh _ _ _ _).mono ?_;rintro e Z ⟨⟨x,y,z,rfl⟩,M⟩;have O:=U.trans (M.mono B);have zj:=O.alloc O.size (.cells #[Iq x,Iq y,Iq z] 367);have zg:=(A.below M).below ((ac _ Z).alloc LE (.cells #[Iq x,Iq y,Iq z] 367));go_wp2_with(at_builtin;refine yK (W0:=W) hi zq zr zt zg zj [Iq x,Iq y,Iq z] rfl _ _ rfl underlying296 ⟨rfl,by decide,by decide⟩ rfl rfl At ⟨rfl,rfl⟩ dg (λj u Y=>by have:=nQ Y;simp at this;rcases this with rfl|rfl|rfl<;>exact⟨_,rfl⟩) ?_);intro v' C zh zk V;have cx:C.cell? (aq Z.heap.size 0)=some (Iq x):=by rw[aQ (V _ At ((A.below M).own LE)),World.cell?_alloc_at _ _ _ _ rfl];rfl
  go_wp2;go_roundw;.exact⟨k+1,_,rfl,by go_num,dg,zh,zk⟩
  grind[intOf]
 .have F:¬(k:Int)<(n:Int):=dg;obtain rfl:k=n:=dg;obtain⟨m,rfl⟩:=xX wr;have E:=Ik A;have CS:=qH<|kShrunk E hn;have CP:=qH<|kPoured E hn;obtain⟨p,cp,rfl,L⟩:=E;replace L:=qH<|L;have HB:=qH<|U;have zy:=run_make_row' (P:=prog) 26 3 (Iq 0) 8 underlying26 vB rfl .i64 .i64 k dg dg;clear HK A;go_wp2_with(first
   |(go_at_call 268;refine(Rp _ _ _ hn _).mono ?_;rintro e Z ⟨⟨r,rfl,r0,r1⟩,zm⟩;obtain rfl:=zm.symm)
   |(go_at_call 269;refine(CS _ _ Ok).mono ?_;rintro e C ⟨⟨g,c,rfl,X,ze⟩,N⟩)
   |(go_at_call 270;refine(CP _ _ ((ac _ m).alloc LE _)).mono ?_;rintro e C ⟨⟨p,q,rfl,hq⟩,N⟩));.go_ret;exact⟨⟨g,c,rfl,aA B X,ze⟩,HB.trans (N.mono B)⟩
  all_goals have K:Hid (Below m.heap.size m C):=Below.trans ((ac _ m).alloc LE _) (N.mono At);have KO:=qH<|(KB.make (P:=KZ) m k 3 (Iq 0) λ_=>⟨_,rfl⟩).below N;have G:=K.size;have S:m.heap.size<C.heap.size:=KO.1;clear N;obtain⟨z,J⟩:=af m.heap.size;rw[J]at KO L G S B K|-;have HZ:=qH<|J;clear J
  .go_loopw[15] (λi wr=>∃j:Nat,i=Iq j/\j<=k/\Hid (KT z z k m wr)) (λi _=>k-(intOf i).toNat);.exact⟨0,rfl,LT,KO,KO,K⟩
   obtain⟨j,rfl,Y,d⟩:=hrel;by_cases f:j<k;.have t:(j:Int)<(k:Int):=dg;obtain⟨a,b,c,g,o,rfl,X,H⟩:=L j f;obtain⟨c0,c1,c2⟩:=H wr (by have e:=d.2.2;rw[<-HZ.out]at e;exact e);clear H;obtain⟨f1,y,d1,_⟩:=d.1.2 j f;have zx:g≠z:=dg;have zA:z≠g:=dg;go_wp2;all_goals
     go_roundw;.first|exact⟨j+1,by go_num,dg,(d.set z _ _ LE).set z _ _ LE⟩|exact⟨j+1,by go_num,dg,d.set z _ _ LE⟩
     grind[intOf]
   .have F:¬(j:Int)<(k:Int):=dg;go_wp2;go_ret;exact⟨⟨z,k,rfl,B,d.1⟩,HB.trans (d.2.2.mono B)⟩
  .have R:(q==0)=false:=by assumption
   have zl:¬q=0:=by simpa using R
   rw[R];have Q:0<k:=by
    rcases Cp k with h|h;.exact absurd (hq h) zl
    .exact h
   have T0:Hid (KT z C.heap.size k m (C.alloc (.cells (madeCells #[Iq 0] k) 3))):=⟨KO.below No,KB.make _ _ _ _ λ_=>⟨_,rfl⟩,K.alloc G _⟩;clear KO K;obtain⟨y,hy⟩:=af C.heap.size;rw[hy]at T0 S|-;clear hy G;go_loopw[17,18] (λl i wr=>∃(j:Nat) (x:Int),l=Iq x/\i=Iq j/\j<=k/\Hid (x<=9223372036854775807)/\Hid (KT z y k m wr)) (λ_ i _=>k-(intOf i).toNat);.exact⟨0,_,rfl,rfl,LT,by show _<=_;omega,T0⟩
   obtain⟨j,x,rfl,rfl,Y,I,d⟩:=hrel;by_cases f:j<k
   .have t:(j:Int)<(k:Int):=dg;obtain⟨a,b,c,g,o,rfl,X,H⟩:=L j f;obtain⟨c0,c1,c2⟩:=H wr (by have e:=d.2.2;rw[<-HZ.out]at e;exact e);clear H;go_wp2_with fail;refine(Hi a b c p q _).mono ?_;rintro e Z ⟨⟨v,rfl⟩,M⟩;have D:=qH<|d.below M;obtain⟨f1,y1,d1,⟨y2,rfl⟩⟩:=D.1.2 j f;obtain⟨f3,y3,d3,⟨y4,rfl⟩⟩:=D.2.1.2 j f;have zo:y≠z:=dg;have zu:z≠y:=dg;go_wp2;go_roundw;.exact⟨j+1,_,rfl,by go_num,dg,ib _,(D.set z _ _ LE).set y _ _ dg⟩
    grind[intOf]
   .have F:¬(j:Int)<(k:Int):=dg;obtain⟨w7,rfl⟩:=xX wr;go_wp2;go_loopw[17] (λl wr=>∃x:Int,l=Iq x/\Hid (x<=9223372036854775807)/\Hid (KT z y k m wr)) (λl _=>(intOf l).toNat);.exact⟨_,rfl,I,d⟩
    obtain⟨x,rfl,I,d⟩:=hrel;by_cases hx:0<x
    .obtain⟨w8,rfl⟩:=xX wr;go_wp2;go_loopw[20,21] (λb i wr=>∃c j:Nat,b=Iq c/\i=Iq j/\c<k/\j<=k/\Hid (KT z y k m wr)) (λ_ i _=>k-(intOf i).toNat);.exact⟨0,1,rfl,rfl,Q,Q,d⟩
     obtain⟨c,j,rfl,rfl,V,Y,d⟩:=hrel;obtain⟨f1,y1,d1,⟨y2,rfl⟩⟩:=d.2.1.2 c V;have zw:(c:Int)<(k:Int):=dg;by_cases f:j<k;.have t:(j:Int)<(k:Int):=dg;obtain⟨f3,y3,d3,⟨y4,rfl⟩⟩:=d.2.1.2 j f;have HD:=qH<|d.below (Ok.drew);go_wp2_with fail;go_quiet(fail);go_wp2;all_goals exact⟨⟨_,j+1,rfl,by go_num,dg,dg,d.below (below_drewN Ok _)⟩,by grind[intOf]⟩
     .have F:¬(j:Int)<(k:Int):=dg;obtain⟨f3,y3,d3,⟨y4,rfl⟩⟩:=d.1.2 c V;have zo:y≠z:=dg;have zu:z≠y:=dg;have zn:x-1<=9223372036854775807:=by have:=I.out;omega
      go_wp2;exact⟨⟨_,rfl,zn,(d.set z _ _ LE).set y _ _ dg⟩,by grind[intOf]⟩
    .go_wp2;go_ret;exact⟨⟨z,k,rfl,B,d.1⟩,HB.trans (d.2.2.mono B)⟩
def Uc{w:AT}{v:Fd}{n:Nat}(h:KW w v n)(C:n<=200)(a b:Int)(W:AT)(y:Bq w W):
 Cw 205 #[Iq a,Iq b,v] W λe w'=>KL W.heap.size n e w'/\Bq W w':=by
 have CS:=qH<|kSplit h C a b W y;have B:=run_make_row' (P:=prog) 26 3 (Iq 0) 8 underlying26 vB rfl .i64 .i64 n dg dg;go_enter func205,ntmps205;go_wp2_with fail;refine CS.mono ?_;rintro e l ⟨⟨g,c,rfl,G,o⟩,t⟩;have r:Hid (KT l.heap.size g n l (l.alloc (.cells (madeCells #[Iq 0] n) 3))):=⟨KB.make _ _ _ _ λ_=>⟨_,rfl⟩,o.below No,No⟩;have q:=o.1;have p:=t.size;clear CS o;go_wp2;obtain⟨z,k⟩:=af l.heap.size;rw[k]at r q p|-;clear k;go_loopw[9,10] (λs i wr=>∃(j:Nat) (x:Int),s=Iq x/\i=Iq j/\j<=n/\Hid (KT z g n l wr)) (λ_ i _=>n-(intOf i).toNat);.exact⟨0,0,rfl,rfl,LT,r⟩
 obtain⟨j,x,rfl,rfl,H,d⟩:=hrel;by_cases f:j<n
 .have u:(j:Int)<(n:Int):=dg;obtain⟨f1,I,d1,⟨J,rfl⟩⟩:=d.1.2 j f;obtain⟨f3,K,d3,⟨L,rfl⟩⟩:=d.2.1.2 j f;have D:g≠z:=dg;have E:z≠g:=dg;obtain⟨F,⟨_,_⟩,m⟩:=Rc b;replace m:=qH m;go_wp2_with fail;go_quiet(first|(go_at_call 213;exact Calls.quiet_of_same (m _)));go_wp2;go_roundw;.exact⟨j+1,_,rfl,by go_num,dg,(d.set z _ _ LE).below (below_drewN Ok _)⟩
  grind[intOf]
 .have A:¬(j:Int)<(n:Int):=dg;go_wp2;go_ret;exact⟨⟨z,n,rfl,p,d.1⟩,t.trans (d.2.2.mono p)⟩
