import Derived.Test.YtehgehanbnkdiaaGreatDoorQ02
import Derived.Test.YtehgehanbnkdiaaGreatDoorQ10
import Derived.DeepKeys4
set_option linter.all false
set_option maxRecDepth 100000
set_option maxHeartbeats 16000000
namespace Go.Proofs.YtehgehanbnkdiaaGreatDoor
open Go.RowKit Go.Sort Go.Proofs.Tryz
def eU(n:Int):Prop:=-9223372036854775808<=n/\n<=9223372036854775807
def eU.wf{n}(h:eU n):(Lit.int .i64 n).wf=true:=by
 unfold eU at h;have a:IntKind.i64.min=-9223372036854775808:=by decide
 have b:IntKind.i64.max=9223372036854775807:=by decide
 simp[Lit.wf,a,b];omega
def kA(i w:Int):Fd:=.agg #[.int .i64 i,.int .i64 w]
def kL(i w:Int):Lit:=.string (keyBytes [.int .i64 i,.int .i64 w])
def pL{i w:Int}(hi:eU i)(j:eU w):keyOf prog 357 (kA i w)=some (kL i w):=by
 have b:=hi.wf;have c:=j.wf;have f:prog.keyType 357=true:=pt;have e:(kA i w).formed prog 357=true:=by unfold kA Value.formed;rw[underlying357];show(2==prog.cellsOf 357)=true;kernel_rfl
 obtain⟨m,h⟩:∃m,prog.types.size+1=m+2:=⟨prog.types.size-1,pt⟩;have d:prog.cellsOf 357=2:=pt;have a:prog.cellsOf 3=1:=pt;have g:prog.keyLits (m+2) 357 [.int .i64 i,.int .i64 w]=some [.int .i64 i,.int .i64 w]:=by simp[Program.keyLits,underlying357,underlying3,d,a,b,c]
 unfold keyOf;rw[underlying357];dsimp only;rw[f,e,h];show(if(true&&true)=true then((prog.keyLits (m+2) 357 [.int .i64 i,.int .i64 w]).map λk=>Lit.string (keyBytes k))else none)=_;rw[g];rfl
def BA:WideMaps.KeyLaw prog 357:=deep_law_laid pt (m:=5) dg (of_decide_eq_true pt) pt pt
def Ic:Maps.Keyed prog 357:=Maps.Keyed.of_law BA
def O4{i w j v}(hi:eU i)(e:eU w)(c:eU j)(d:eU v)(h:kL i w=kL j v):i=j/\w=v:=by have b:=pL hi e;have a:=pL c d;rw[<-h]at a;have:=BA.inj b a;grind[kA]
structure aU(W:AT)(r:Nat)(H:zzg)(n:Nat):Prop where
 own:∃D:DataW Unit,W.ownsMap prog 357 (plainElem prog 3) r n D/\∀(i:Nat) (w:Int),eU i->eU w->Maps.has D (kL i w)=true->D.atKey (kL i w) (.lit (.int .i64 0))=.lit (.int .i64 (H i w))
def aU.new(w:AT)H:aU (w.alloc (.map #[] 0)) w.heap.size H 0:=by refine⟨.map [],World.ownsMap_made w _ _ _,λi v _ _ h=>?_⟩;simp[Maps.has]at h
def aU.kept{W W'}{r n}{H}{row}(h:aU W r H n)(d:W.grownBy W' row)(a:some r≠row):aU W' r H n:=by obtain⟨D,b,c⟩:=h.own;exact⟨D,b.kept d a,c⟩
def aU.mono{W}{r n a}{H}(h:aU W r H n)(d:n<=a):aU W r H a:=by obtain⟨D,b,c⟩:=h.own;exact⟨D,b.mono d,c⟩
def aU.lt{W}{r n}{H}(h:aU W r H n):r<W.heap.size:=by obtain⟨D,a,_⟩:=h.own;exact a.lt
def aU.look{W}{r n}{H}(h:aU W r H n){i:Nat}{w}(hi:eU i)(g:eU w):
 (Instr.lookup 209 (.map (some r)) (kA i w) true).run prog W=.ok (.tuple #[.int .i64 (H i w),.bool true]) W\/∃c,(Instr.lookup 209 (.map (some r)) (kA i w) true).run prog W=.ok (.tuple #[.int .i64 c,.bool false]) W:=by
 obtain⟨D,b,k⟩:=h.own;obtain⟨v,m,a,f⟩:=b.look_ok Ic (t:=209) (e:=3) pt (z:=.int .i64 0) (zeroValue3 W) (zd:=.lit (.int .i64 0)) (zp:=[]) (plainElem_int underlying3 (by decide)) (pL hi g);obtain⟨c,rfl,d,j⟩:=plainElem_int_inv underlying3 f;simp only[Prod.mk.injEq]at d;cases l:Maps.has D (kL i w)with
 |true=>grind
 |false=>grind
def aU.put{W}{r n}{H}(h:aU W r H n){i:Nat}{w}(hi:eU i)(c:eU w)(k:eU (H i w))(u:n<1000000000000):
 ∃a,(Instr.mapUpdate 209 (.map (some r)) (kA i w) (.int .i64 (H i w))).run prog W=.ok () a/\aU a r H (n+1)/\W.grownBy a (some r):=by
 obtain⟨D,f,s⟩:=h.own;obtain⟨a,b,p,m⟩:=f.update Ic (t:=209) (e:=3) pt (by unfold maxLen;omega) (pL hi c) (plainElem_int underlying3 k.wf);refine⟨a,b,⟨_,p,λj v o q l=>?_⟩,m⟩;by_cases e:kL j v=kL i w;.obtain⟨d,g⟩:=O4 o q hi c e;have d:j=i:=dg;subst d;subst g;exact Maps.atKey_put_same (f.isMap) (Ic.key (pL hi c)) _ _
 .rw[Maps.atKey_put_other e];rw[Maps.has_put_other e]at l;grind
def Ms(W:AT)(mb:Nat)(nv wv:Fd)(r:Nat):Prop:=W.heap[mb]?=some (.cells #[nv,wv,.map (some r)] 211 (0,0))
def aa{W W'}{row}(h:Bq W W'):W.grownBy W' row:=⟨h.os,h.tape,h.output,h.size,λb a _=>h.block b a⟩
def aU.map{W}{r n}{H}(h:aU W r H n):∃b a,W.heap[r]?=some (.map b a):=by obtain⟨D,⟨b,a,c,_⟩,_⟩:=h.own;grind
def aU.ne{W}{r n b}{H}(h:aU W r H n){c}{t}{d}(g:W.heap[b]?=some (.cells c t d)):b≠r:=by intro e;subst e;obtain⟨f,a,i⟩:=h.map;grind
def DY(o r g i n k N C:Nat)(w:Int)(H:zzg)(wv:Fd)(kd Q R S T V X Y Z a8 a9 b0 b1 up:Int)(tx:BY)(kv:Fd)(W:AT)(K:Ms W o (Sq g N C) wv r)(hm:Hid (aU W r H n))(hi:i<N)(hN:N<=1000000)(l:eU i)(m:eU w)(zt:n+k+1<1000000000000)(hg:g<W.heap.size)(zq:g≠r)(hC:Hid (∀t x,(#[Iq kd,Iq Q,Iq R,Iq S,Iq T,Iq V,Iq X,Iq Y,Iq Z,Iq a8,Iq a9,Iq b0,Iq b1,.string tx,kv,Iq up]:Array Fd)[t]?=some x->W.cell? (aq g (i*16+t))=some x))(G:Hid (∀U,Bq W U->aU U r H n->Cw 256 #[Pq o,.agg #[Iq kd,Iq Q,Iq R,Iq S,Iq T,Iq V,Iq X,Iq Y,Iq Z,Iq a8,Iq a9,Iq b0,Iq b1,.string tx,kv,Iq up],Iq w] U λe U'=>∃x,e=Rw (Iq x)/\aG x=H i w/\Hid (U.grownBy U' (some r))/\Hid (aU U' r H (n+k)))):
 Cw 190 #[Pq o,Iq (i:Int),Iq w] W λe J=>e=Rw (Iq (H i w))/\Hid (W.grownBy J (some r))/\Hid (aU J r H (n+k+1)):=by
 have zl:prog.follows .mixedOrders=true:=pt;obtain⟨b,F⟩:=af (W.alloc (.cells #[Iq (i:Int),Iq w] 357));obtain⟨A,hA⟩:=af W.heap.size;have h:Bq W b:=by rw[<-F];exact((Gr.refl W).alloc _).below
 have d:b.heap[A]?=some (.cells #[Iq (i:Int),Iq w] 357 (0,0)):=by rw[<-F,<-hA];show(W.heap.push _)[W.heap.size]?=_;exact C7
 have zh:=(aj.1 K).1;have f:=(h.block o zh).trans K;have v:=qH<|hm.kept (aa (row:=none) h) At;have y:=qH<|v.kept (W':=b.drew) (row:=none) (aa (jD (ac _ b))) At;have k0:b.cell? (aq A 0)=some (Iq (i:Int)):=by rw[Lib.cell_of_heap d];rfl
 have k1:b.cell? (aq A 1)=some (Iq w):=by rw[Lib.cell_of_heap d];rfl
 have m0:b.cell? (aq o 0)=some (Sq g N C):=by rw[Lib.cell_of_heap f];rfl
 have m2:b.cell? (aq o 2)=some (.map (some r)):=by rw[Lib.cell_of_heap f];rfl
 have a:=qH<|λt x ht=>(h.cell (p:=(aq g _)) hg).trans (hC t x ht);have q:=qH<|h;have zr:(i:Int)<(N:Int):=dg;rcases y.look l m with B|⟨c,B⟩;.unfold kA at B;clear f d h K;go_enter func190,ntmps190;go_wp2;go_region;all_goals go_wp2;go_ret;exact⟨rfl,aa (jD q),y.mono dg⟩
 .unfold kA at B;have q0:b.cell? (aq g (i*16))=some (Iq kd):=a 0 _ rfl;have q1:b.cell? (aq g (i*16+1))=some (Iq Q):=a 1 _ rfl;have q2:b.cell? (aq g (i*16+2))=some (Iq R):=a 2 _ rfl;have q3:b.cell? (aq g (i*16+3))=some (Iq S):=a 3 _ rfl;have q4:b.cell? (aq g (i*16+4))=some (Iq T):=a 4 _ rfl;have q5:b.cell? (aq g (i*16+5))=some (Iq V):=a 5 _ rfl;have q6:b.cell? (aq g (i*16+6))=some (Iq X):=a 6 _ rfl;have q7:b.cell? (aq g (i*16+7))=some (Iq Y):=a 7 _ rfl;have q8:b.cell? (aq g (i*16+8))=some (Iq Z):=a 8 _ rfl;have q9:b.cell? (aq g (i*16+9))=some (Iq a8):=a 9 _ rfl;have zu:b.cell? (aq g (i*16+10))=some (Iq a9):=a 10 _ rfl;have zv:b.cell? (aq g (i*16+11))=some (Iq b0):=a 11 _ rfl;have zw:b.cell? (aq g (i*16+12))=some (Iq b1):=a 12 _ rfl;have zx:b.cell? (aq g (i*16+13))=some (.string tx):=a 13 _ rfl;have zy:b.cell? (aq g (i*16+14))=some (kv):=a 14 _ rfl;have zA:b.cell? (aq g (i*16+15))=some (Iq up):=a 15 _ rfl;have WC:=qH<|G b.drew (jD q) y;have zj:=v.ne f;have zg:=v.ne d;have M:=qH<|f;have L:=qH<|d;have zi:=(aj.1 f).1;have ze:=(aj.1 d).1;clear f d h K G;go_enter func190,ntmps190;go_wp2;go_region;all_goals
   go_wp2_with fail;refine WC.mono ?_;rintro e U ⟨x,rfl,hx,s,P⟩;have zo:b.drew.heap.size=b.heap.size:=rfl;have E:=(s.block o zi (λe=>zj (by simpa using e))).trans M;have z:=(s.block A ze (λe=>zg (by simpa using e))).trans L;have v0:U.cell? (aq A 0)=some (Iq (i:Int)):=by rw[Lib.cell_of_heap z];rfl
   have v1:U.cell? (aq A 1)=some (Iq w):=by rw[Lib.cell_of_heap z];rfl
   have v2:U.cell? (aq o 2)=some (.map (some r)):=by rw[Lib.cell_of_heap E];rfl
   have O:=qH<|P.kept (W':=U.drew) (row:=none) (aa (jD (ac _ U))) At;have D:eU (H i w):=by rw[<-hx];have:=bB x;unfold eU;omega
   obtain⟨U2,zk,I,j⟩:=O.put l m D dg;unfold kA at zk;have zn:=qH<|I;have zm:Hid (W.grownBy U2 (some r)):=by have g1:W.grownBy b.drew (some r):=aa (jD q);have g2:=g1.trans s;have g3:=g2.trans (aa (jD (ac _ U)));exact g3.trans j
   have LN:=qH<|λu=>by have:=length_any x u;rw[hx]at this;exact this
   clear E z I j hx;go_wp2_with(go_at_call 112;refine Ut (LN _) ?_;rintro u hu;obtain rfl:=hu.symm);go_region;all_goals go_wp2;go_ret;simp_all
def eu(kd a0 a1 a2 a3 a4 a5 a6 a7 a8 a9 b0 b1:Int)(tx:BY)(kv:Fd)(up:Int):Fd:=.agg #[Iq kd,Iq a0,Iq a1,Iq a2,Iq a3,Iq a4,Iq a5,Iq a6,Iq a7,Iq a8,Iq a9,Iq b0,Iq b1,.string tx,kv,Iq up]
def iT(kd a5 a6:Int):Int:=if kd=3 then a6+a5 else 0
def kX(a4:Int)(m:Nat):Int:=a4*max 0 ((m:Int)-1)
def nA(n m:Int):Int:=if m<0 then n else min n m
def yn{kd a b}(c:0<=a/\a<=1000000)(d:0<=b/\b<=1000000):0<=iT kd a b/\iT kd a b<=2000000:=by grind[iT]
def jH(kd g h i j k a b l n o q r up:Int)(tx:BY)(p:zze)(m c:Nat)(t:0<=a/\a<=1000000)(u:0<=b/\b<=1000000)(w:AT):
 Cw 189 #[eu kd g h i j k a b l n o q r tx (.slice p m c) up] w λe w'=>e=Rw (Iq (iT kd a b))/\Hid (Bq w w'):=by
 unfold eu;by_cases d:kd=3
 .subst d;have f:iT 3 a b=b+a:=by unfold iT;rw[if_pos rfl]
  rw[f];go_enter func189,ntmps189;go_wp2;go_ret;exact⟨by go_num,((Gr.refl w).alloc _).below⟩
 .have f:iT kd a b=0:=by unfold iT;rw[if_neg d]
  have s:(kd !=3)=true:=by simpa using d
  rw[f];go_enter func189,ntmps189;go_wp2;go_ret;exact⟨rfl,((Gr.refl w).alloc _).below⟩
def u_(kd g h i j a k l o r s t u up:Int)(tx:BY)(p:zze)(m c:Nat)(f:0<=a/\a<=1000000)(z:m<=1000000)(w:AT):
    Cw 188 #[eu kd g h i j a k l o r s t u tx (.slice p m c) up] w λe w'=>e=Rw (Iq (kX a m))/\Hid (Bq w w'):=by
  unfold eu;obtain⟨q,x⟩:=af (max 0 ((m:Int)-1));have b:0<=q/\q<=1000000:=dg;have d:0<=a*q/\a*q<=1000000*1000000:=⟨ip f.1 b.1,kI f.2 b.2 b.1 dg⟩;have y:IntKind.i64.wrap (a*q)=a*q:=IntWalk.i64_in _ dg;have v:kX a m=a*q:=by unfold kX;rw[x]
  rw[v];go_enter func188,ntmps188;go_wp2;all_goals
    go_ret;refine⟨?_,((Gr.refl w).alloc _).below⟩;refine congrArg (λn:Int=>Ending.returned (Iq n)) (?_:_=a*q);first
      |(have e:q=(m:Int)-1:=dg;rw[e]at d|-;exact IntWalk.wrap64_in _ dg)
      |(have e:q=0:=dg;rw[e,Int.mul_zero];exact IntWalk.wrap64_in _ dg)
def atMost_any(n m:Int)(w:AT):Cw 308 #[Iq n,Iq m] w λe w'=>e=Rw (Iq (nA n m))/\w'=w:=by
 by_cases h:m<0
 .have a:nA n m=n:=by unfold nA;rw[if_pos h]
  rw[a];go_enter func308,ntmps308;go_wp2;go_ret;simp_all
 .have a:nA n m=min n m:=by unfold nA;rw[if_neg h]
  rw[a];go_enter func308,ntmps308;go_wp2;all_goals go_ret;refine⟨?_,rfl⟩;refine congrArg (λn:Int=>Ending.returned (Iq n)) (?_:_=min n m);omega
def yE(n:Int)(w:AT):Cw 71 #[Iq n] w λe w'=>e=Rw (.bool (decide (1<=n/\n<=400)))/\w'=w:=by
 by_cases a:1<=n
 .by_cases b:n<=400;.rw[decide_eq_true (show 1<=n/\n<=400 from⟨a,b⟩)];go_enter func71,ntmps71;go_wp2;go_ret;simp_all
  .rw[decide_eq_false (show¬(1<=n/\n<=400)from λe=>b e.2)];go_enter func71,ntmps71;go_wp2;go_ret;simp_all
 .rw[decide_eq_false (show¬(1<=n/\n<=400)from λe=>a e.1)];go_enter func71,ntmps71;go_wp2;go_ret;simp_all
def hS(h:zzb):Nat->Int
 |0=>0
 |k+1=>hS h k+h k
def hG(h:zzb):Nat->Int
 |0=>0
 |k+1=>max (hG h k) (h k)
def cS(c:Nat->Nat):Nat->Nat
 |0=>0
 |k+1=>cS c k+c k
def vi{h}{m}(hh:∀j,j<m->0<=h j/\h j<=100000):∀k,k<=m->0<=hS h k/\hS h k<=100000*(k:Int)
 |0,_=>by simp[hS]
 |k+1,b=>by have a:=vi hh k dg;grind[hS]
def vh{h}{m}(hh:∀j,j<m->0<=h j/\h j<=100000):∀k,k<=m->0<=hG h k/\hG h k<=100000
 |0,_=>by simp[hG]
 |k+1,b=>by have a:=vh hh k dg;grind[hG]
def ro(kd a4 a5 a6:Int)(h:zzb)(m:Nat):Int:=if kd=1 then hS h m+kX a4 m else hG h m+2*iT kd a5 a6
def eL(W:AT)(r:Nat)(p:zze)(m:Nat)(v:zzb):Prop:=m=0\/∃b o,p=some (aq b o)/\b<W.heap.size/\b≠r/\∀j,j<m->W.cell? (aq b (o+j))=some (Iq (v j))
def eL.grown{W a}{r m}{p}{v}(h:eL W r p m v)(f:W.grownBy a (some r)):eL a r p m v:=by
 rcases h with h|⟨b,o,e,c,d,g⟩;.exact .inl h
 .exact .inr ⟨b,o,e,zz006 c f.size,d,λj i=>(aQ (f.block b c (λq=>d rn))).trans (g j i)⟩
def NE(U U':AT)(r m:Nat)(kd a4 a5 a6:Int)(ks:Nat->Nat)(H:zzg)(Tb:(Nat->Int)->Prop)(n:Nat)(e:Ending):Prop:=∃V,Tb V/\e=Rw (Iq (ro kd a4 a5 a6 (λj=>H (ks j) (V j)) m))/\U.grownBy U' (some r)/\aU U' r H n
def iW(U U':AT)(r m:Nat)(H:zzg)(Tb:(Nat->Int)->Prop)(n:Nat)(e:Ending):Prop:=∃q cq V,Tb V/\e=Rw (.slice q m cq)/\eL U' r q m V/\U.grownBy U' (some r)/\aU U' r H n
def Nk(mb r n m:Nat)(w:Int)(H:zzg)(L:(Nat->Int)->Prop)(J:Nat->Nat)(kc:Nat->Nat)(i M N O P l o s Q R T W X up:Int)(tx:BY)(p:zze)(c:Nat)(U:AT)(zE:i≠5)(hm:m<=1000)(h4:0<=l/\l<=1000000)(h5:0<=o/\o<=1000000)(h6:0<=s/\s<=1000000)(zD:Hid (∀j v,j<m->0<=H (J j) v/\H (J j) v<=100000))(zF:Hid (∀j,j<m->J j<=1000000))(hr:r<U.heap.size)(hM:Hid (aU U r H n))(hK:Hid (eL U r p m (λj=>(J j:Int))))(KW:Hid (∀u,Bq U u->aU u r H n->Cw 302 #[Pq mb,eu i M N O P l o s Q R T W X tx (.slice p m c) up,Iq w] u λe u'=>iW u u' r m H L n e))(zw:Hid (∀V,L V->∀j u nn,j<m->U.grownBy u (some r)->aU u r H nn->nn<=n+cS kc j->Cw 190 #[Pq mb,Iq (J j:Int),Iq (V j)] u λe u'=>e=Rw (Iq (H (J j) (V j)))/\Hid (u.grownBy u' (some r))/\Hid (aU u' r H (n+cS kc (j+1))))):
 Cw 256 #[Pq mb,eu i M N O P l o s Q R T W X tx (.slice p m c) up,Iq w] U λe U'=>NE U U' r m i l o s J H L (n+cS kc m) e:=by
 have e5:(i==5)=false:=by simpa using zE
 obtain⟨ob,zU⟩:∃z:Obj,Obj.cells #[Iq i,Iq M,Iq N,Iq O,Iq P,Iq l,Iq o,Iq s,Iq Q,Iq R,Iq T,Iq W,Iq X,.string tx,.slice p m c,Iq up] 140=z:=⟨_,rfl⟩;obtain⟨b,Z⟩:=af (U.alloc (.cells #[Iq i,Iq M,Iq N,Iq O,Iq P,Iq l,Iq o,Iq s,Iq Q,Iq R,Iq T,Iq W,Iq X,.string tx,.slice p m c,Iq up] 140));obtain⟨A,hA⟩:=af U.heap.size;have zm:Bq U b:=by rw[<-Z];exact((Gr.refl U).alloc _).below
 have zl:b.heap[A]?=some (.cells #[Iq i,Iq M,Iq N,Iq O,Iq P,Iq l,Iq o,Iq s,Iq Q,Iq R,Iq T,Iq W,Iq X,.string tx,.slice p m c,Iq up] 140 (0,0)):=by rw[<-Z,<-hA];show(U.heap.push _)[U.heap.size]?=_;exact C7
 have a:Hid (∀u,b.grownBy u (some r)->∀t x,(#[Iq i,Iq M,Iq N,Iq O,Iq P,Iq l,Iq o,Iq s,Iq Q,Iq R,Iq T,Iq W,Iq X,.string tx,.slice p m c,Iq up]:Array Fd)[t]?=some x->u.cell? (aq A t)=some x):=λu hu t x ht=>by have zP:=(aj.1 zl).1;have:=hu.block A zP (λe=>rn);rw[Lib.cell_of_heap (this.trans zl)];exact ht
 have zi:Hid (U.grownBy b (some r)):=aa zm;have zt:=qH<|zm;have z0:=a b (aa (ac _ b)) 0 _ rfl;have z1:=a b (aa (ac _ b)) 1 _ rfl;have z2:=a b (aa (ac _ b)) 2 _ rfl;have z3:=a b (aa (ac _ b)) 3 _ rfl;have z4:=a b (aa (ac _ b)) 4 _ rfl;have z5:=a b (aa (ac _ b)) 5 _ rfl;have z6:=a b (aa (ac _ b)) 6 _ rfl;have z7:=a b (aa (ac _ b)) 7 _ rfl;have z8:=a b (aa (ac _ b)) 8 _ rfl;have z9:=a b (aa (ac _ b)) 9 _ rfl;have zV:=a b (aa (ac _ b)) 10 _ rfl;have zX:=a b (aa (ac _ b)) 11 _ rfl;have zY:=a b (aa (ac _ b)) 12 _ rfl;have zZ:=a b (aa (ac _ b)) 13 _ rfl;have R6:=a b (aa (ac _ b)) 14 _ rfl;have R7:=a b (aa (ac _ b)) 15 _ rfl;clear zm zl zU;unfold eu at KW|-;go_enter func256,ntmps256;go_wp2_with fail;refine(KW _ zt (hM.kept (aa (row:=none) zt) At)).mono ?_;rintro e U2 ⟨q,cq,V,zq,rfl,hv,zh,zH⟩;have zA:=qH<|zq;have HV:=qH<|hv;have I:=qH<|zh;have K:=qH<|zi.trans I;have zx:=qH<|zH;have zv:=qH<|hK.grown K;obtain⟨h,zn⟩:∃h:Nat->Int,(λj=>H (J j) (V j))=h:=⟨_,rfl⟩;have hh:Hid (∀j,j<m->0<=h j/\h j<=100000):=by rw[<-zn];exact λj hj=>zD j _ hj
 have HK:Hid (∀j u nn,j<m->U.grownBy u (some r)->aU u r H nn->nn<=n+cS kc j->Cw 190 #[Pq mb,Iq (J j:Int),Iq (V j)] u λe u'=>e=Rw (Iq (h j))/\Hid (u.grownBy u' (some r))/\Hid (aU u' r H (n+cS kc (j+1)))):=by rw[<-zn];exact zw V zq
 have zg:Hid (∀e u,e=Rw (Iq (ro i l o s h m))->U.grownBy u (some r)->aU u r H (n+cS kc m)->NE U u r m i l o s J H L (n+cS kc m) e):=λe u h1 h2 h3=>⟨V,zA,rn,h2,h3⟩;have zI:=a U2 I 14 _ rfl;clear z0 z1 z2 z3 z4 z5 z6 z7 z8 z9 zV zX zY zZ R6 R7 KW zn zq hv zh zH zw zD;generalize zT:Value.agg #[Iq i,Iq M,Iq N,Iq O,Iq P,Iq l,Iq o,Iq s,Iq Q,Iq R,Iq T,Iq W,Iq X,.string tx,.slice p m c,Iq up]=nv;go_wp2_with fail;go_loopw[7,8,26] (λsv gv kv wr=>∃k:Nat,k<=m/\kv=Iq (k:Int)/\sv=Iq (hS h k)/\gv=Iq (hG h k)/\Hid (U2.grownBy wr (some r))/\Hid (aU wr r H (n+cS kc k))) (λ_ _ kv _=>m-(intOf kv).toNat);.exact⟨0,LT,rfl,rfl,rfl,aa Ok,zx⟩
 obtain⟨k,hk,rfl,rfl,rfl,y,zj⟩:=hrel;by_cases E:k<m
 .have zG:(k:Int)<(m:Int):=dg;have D:=vi hh k hk;have C:=vh hh k hk;have ze:=hh k E;have zS:=zF k E;obtain⟨kb,ko,rfl,_,_,zB⟩:=(zv.grown y).resolve_left dg;obtain⟨vb,vo,rfl,_,_,zC⟩:=(HV.grown y).resolve_left dg;have cv:=zC k E;have HC:=qH<|HK k wr _ E (K.trans y) zj LE;obtain⟨S,f⟩:=af (hS h k);obtain⟨G,Y⟩:=af (hG h k);obtain⟨x,hx⟩:=af (h k);obtain⟨vv,zr⟩:=af (V k);have ck:=zB k E;have zO:Hid (hS h (k+1)=S+x):=qH<|by rw[<-f,<-hx];rfl
  have zi:Hid (hG h (k+1)=max G x):=qH<|by rw[<-Y,<-hx];rfl
  rw[f]at D;rw[Y]at C;rw[hx]at ze HC;rw[zr]at HC;rw[zr]at cv;rw[f,Y];have zL:=qH<|D;have zJ:=qH<|C;have zK:=qH<|ze;clear f Y hx zr zB zC D C ze zS Z hA zI h4 h5 h6 zE hr;go_wp2_with(go_at_call 190;refine Ut HC ?_;rintro wz ⟨zM,zN⟩;have D:=zL.out;have C:=zJ.out;have ze:=zK.out);all_goals
   go_roundw;.exact⟨k+1,E,by go_num,by rw[zO.out],by rw[zi.out];grind,y.trans zM,zN⟩
   .simp[intOf];omega
 .have zG:¬(k:Int)<(m:Int):=dg;obtain rfl:k=m:=dg;have d:=qH<|I.trans y;have y0:=a wr d 0 _ rfl;have y1:=a wr d 1 _ rfl;have y2:=a wr d 2 _ rfl;have y3:=a wr d 3 _ rfl;have y4:=a wr d 4 _ rfl;have y5:=a wr d 5 _ rfl;have y6:=a wr d 6 _ rfl;have y7:=a wr d 7 _ rfl;have y8:=a wr d 8 _ rfl;have y9:=a wr d 9 _ rfl;have y10:=a wr d 10 _ rfl;have y11:=a wr d 11 _ rfl;have y12:=a wr d 12 _ rfl;have y13:=a wr d 13 _ rfl;have y14:=a wr d 14 _ rfl;have y15:=a wr d 15 _ rfl;have D:=vi hh k hk;have C:=vh hh k hk;have GA:=qH<|λu=>u_ i M N O P l o s Q R T W X up tx p k c h4 dg u;have FA:=qH<|λu=>jH i M N O P l o s Q R T W X up tx p k c h5 h6 u;have zR:0<=kX l k/\kX l k<=1000000000000:=by unfold kX;have zo:0<=max 0 ((k:Int)-1)/\max 0 ((k:Int)-1)<=1000000:=dg;exact⟨ip h4.1 zo.1,kI h4.2 zo.2 zo.1 dg⟩
  have zQ:=yn (kd:=i) h5 h6;unfold eu at GA FA;have zu:Hid (∀u,Bq wr u->U.grownBy u (some r)):=λu hu=>(K.trans y).trans (aa hu);have zy:Hid (∀u,Bq wr u->aU u r H (n+cS kc k)):=λu hu=>zj.kept (aa (row:=none) hu) At;clear Z hA hr hh zF hM hK HK HV zv a y zj K zx zA;rw[zT]at GA FA;by_cases h1:i=1
  .subst h1;have g:ro 1 l o s h k=hS h k+kX l k:=by unfold ro;rw[if_pos rfl]
   obtain⟨S,f⟩:=af (hS h k);obtain⟨gg,B⟩:=af (kX l k);rw[f,B]at g;have zk:=qH<|g;rw[f]at D|-;rw[B]at zR GA;clear f B g;go_wp2_with(go_at_call 188;refine Ut (GA _) ?_;rintro wz F);go_ret;exact zg _ _ (by rw[zk.out];rfl) (zu _ F) (zy _ F)
  .have g:ro i l o s h k=hG h k+2*iT i o s:=by unfold ro;rw[if_neg h1]
   have e1:(i==1)=false:=by simpa using h1
   obtain⟨S,f⟩:=af (hG h k);obtain⟨gg,B⟩:=af (iT i o s);rw[f,B]at g;have zk:=qH<|g;rw[f]at C|-;rw[B]at zQ FA;clear f B g;go_wp2_with(go_at_call 189;refine Ut (FA _) ?_;rintro wz F);go_ret;exact zg _ _ (by rw[zk.out];rfl) (zu _ F) (zy _ F)
def S_(n:Nat)(op:Nat->Nx):Prop:=∀i,i<n->eU (op i).a/\eU (op i).b
