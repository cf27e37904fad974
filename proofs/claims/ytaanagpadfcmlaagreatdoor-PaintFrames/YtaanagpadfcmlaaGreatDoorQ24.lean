import Derived.Test.YtaanagpadfcmlaaGreatDoorQ02
import Derived.Test.YtaanagpadfcmlaaGreatDoorQ11
import Derived.DeepKeys4
set_option linter.all false
set_option maxRecDepth 100000
set_option maxHeartbeats 16000000
namespace Go.Proofs.YtaanagpadfcmlaaGreatDoor
open Go.RowKit Go.Sort Go.Proofs.Tryz
def pN(n:Int):Prop:=-9223372036854775808<=n/\n<=9223372036854775807
theorem pN.wf{n}(h:pN n):(Lit.int .i64 n).wf=true:=by
 unfold pN at h;have a:IntKind.i64.min=-9223372036854775808:=by decide
 have b:IntKind.i64.max=9223372036854775807:=by decide
 simp[Lit.wf,a,b];omega
def kA(i w:Int):Value:=.agg #[.int .i64 i,.int .i64 w]
def kL(i w:Int):Lit:=.string (keyBytes [.int .i64 i,.int .i64 w])
theorem qX{i w:Int}(hi:pN i)(h:pN w):keyOf prog 250 (kA i w)=some (kL i w):=by
 have h1:=hi.wf;have b:=h.wf;have e:prog.keyType 250=true:=ns;have d:(kA i w).formed prog 250=true:=by unfold kA Value.formed;rw[underlying250];show(2==prog.cellsOf 250)=true;kernel_rfl
 obtain⟨m,g⟩:∃m,prog.types.size+1=m+2:=⟨prog.types.size-1,ns⟩;have c:prog.cellsOf 250=2:=ns;have a:prog.cellsOf 3=1:=ns;have f:prog.keyLits (m+2) 250 [.int .i64 i,.int .i64 w]=some [.int .i64 i,.int .i64 w]:=by simp[Program.keyLits,underlying250,underlying3,c,a,h1,b]
 unfold keyOf;rw[underlying250];dsimp only;rw[e,d,g];show(if(true&&true)=true then((prog.keyLits (m+2) 250 [.int .i64 i,.int .i64 w]).map λj=>Lit.string (keyBytes j))else none)=_;rw[f];rfl
theorem Dr:WideMaps.KeyLaw prog 250:=deep_law_laid ns (m:=5) dg (of_decide_eq_true ns) ns ns
theorem IJ:Maps.Keyed prog 250:=Maps.Keyed.of_law Dr
theorem Ow{i w j v}(hi:pN i)(d:pN w)(b:pN j)(c:pN v)(h:kL i w=kL j v):i=j/\w=v:=by have h1:=qX hi d;have a:=qX b c;rw[<-h]at a;have:=Dr.inj h1 a;grind[kA]
structure bm(W:World)(r:Nat)(H:Nat->Int->Int)(n:Nat):Prop where
 own:∃D:DataW Unit,W.ownsMap prog 250 (plainElem prog 3) r n D/\∀(i:Nat) (w:Int),pN i->pN w->Maps.has D (kL i w)=true->D.atKey (kL i w) (.lit (.int .i64 0))=.lit (.int .i64 (H i w))
theorem bm.new(w:World)H:bm (w.alloc (.map #[] 0)) w.heap.size H 0:=by refine⟨.map [],World.ownsMap_made w _ _ _,λi v _ _ h=>?_⟩;simp[Maps.has]at h
theorem bm.kept{W W'}{r n}{H}{row}(h:bm W r H n)(c:W.grownBy W' row)(a:some r≠row):bm W' r H n:=by obtain⟨D,h1,b⟩:=h.own;exact⟨D,h1.kept c a,b⟩
theorem bm.mono{W}{r n a}{H}(h:bm W r H n)(c:n<=a):bm W r H a:=by obtain⟨D,h1,b⟩:=h.own;exact⟨D,h1.mono c,b⟩
theorem bm.lt{W}{r n}{H}(h:bm W r H n):r<W.heap.size:=by obtain⟨D,h1,_⟩:=h.own;exact h1.lt
theorem bm.look{W}{r n}{H}(h:bm W r H n){i:Nat}{w}(hi:pN i)(f:pN w):
 (Instr.lookup 119 (.map (some r)) (kA i w) true).run prog W=.ok (.tuple #[.int .i64 (H i w),.bool true]) W\/∃c,(Instr.lookup 119 (.map (some r)) (kA i w) true).run prog W=.ok (.tuple #[.int .i64 c,.bool false]) W:=by
 obtain⟨D,h1,j⟩:=h.own;obtain⟨v,l,a,d⟩:=h1.look_ok IJ (t:=119) (e:=3) ns (z:=.int .i64 0) (zeroValue3 W) (zd:=.lit (.int .i64 0)) (zp:=[]) (plainElem_int underlying3 (by decide)) (qX hi f);obtain⟨c,rfl,b,g⟩:=plainElem_int_inv underlying3 d;simp only[Prod.mk.injEq]at b;cases k:Maps.has D (kL i w)with
 |true=>grind
 |false=>grind
theorem bm.put{W}{r n}{H}(h:bm W r H n){i:Nat}{w}(hi:pN i)(c:pN w)(g:pN (H i w))(s:n<1000000000000):
 ∃a,(Instr.mapUpdate 119 (.map (some r)) (kA i w) (.int .i64 (H i w))).run prog W=.ok () a/\bm a r H (n+1)/\W.grownBy a (some r):=by
 obtain⟨D,h1,q⟩:=h.own;obtain⟨a,b,o,l⟩:=h1.update IJ (t:=119) (e:=3) ns (by unfold maxLen;omega) (qX hi c) (plainElem_int underlying3 g.wf);refine⟨a,b,⟨_,o,λj v m p k=>?_⟩,l⟩;by_cases e:kL j v=kL i w
 ·obtain⟨d,f⟩:=Ow m p hi c e;have d:j=i:=dg
  subst d;subst f;exact Maps.atKey_put_same (h1.isMap) (IJ.key (qX hi c)) _ _
 ·rw[Maps.atKey_put_other e];rw[Maps.has_put_other e]at k;grind
def Ms(W:World)(mb:Nat)(nv wv:Value)(r:Nat):Prop:=W.heap[mb]?=some (.cells #[nv,wv,.map (some r)] 121 (0,0))
theorem ac{W W'}{row}(h:Bt W W'):W.grownBy W' row:=⟨h.os,h.tape,h.output,h.size,λb a _=>h.block b a⟩
theorem bm.map{W}{r n}{H}(h:bm W r H n):∃b a,W.heap[r]?=some (.map b a):=by obtain⟨D,⟨b,a,c,_⟩,_⟩:=h.own;grind
theorem bm.ne{W}{r n b}{H}(h:bm W r H n){c}{t}{d}(g:W.heap[b]?=some (.cells c t d)):b≠r:=by intro e;subst e;obtain⟨f,a,i⟩:=h.map;grind
theorem Fh(o r g i n k N C:Nat)(w:Int)(H:Nat->Int->Int)(wv:Value)(kd Q R S T V X Y Z a8 a9 b0 b1 up:Int)(tx:ByteArray)(kv:Value)(W:World)(K:Ms W o (Sq g N C) wv r)(hm:Hid (bm W r H n))(hi:i<N)(hN:N<=1000000)(l:pN i)(m:pN w)(zo:n+k+1<1000000000000)(hg:g<W.heap.size)(zm:g≠r)(hC:Hid (∀t x,(#[Iq kd,Iq Q,Iq R,Iq S,Iq T,Iq V,Iq X,Iq Y,Iq Z,Iq a8,Iq a9,Iq b0,Iq b1,.string tx,kv,Iq up]:Array Value)[t]?=some x->W.cell? (aj g (i*16+t))=some x))(G:Hid (∀U,Bt W U->bm U r H n->Cw 168 #[Pq o,.agg #[Iq kd,Iq Q,Iq R,Iq S,Iq T,Iq V,Iq X,Iq Y,Iq Z,Iq a8,Iq a9,Iq b0,Iq b1,.string tx,kv,Iq up],Iq w] U λe U'=>∃x,e=Rw (Iq x)/\aO x=H i w/\Hid (U.grownBy U' (some r))/\Hid (bm U' r H (n+k)))):
 Cw 89 #[Pq o,Iq (i:Int),Iq w] W λe J=>e=Rw (Iq (H i w))/\Hid (W.grownBy J (some r))/\Hid (bm J r H (n+k+1)):=by
 have zi:prog.follows .mixedOrders=true:=ns;obtain⟨b,F⟩:=ad (W.alloc (.cells #[Iq (i:Int),Iq w] 250));obtain⟨A,hA⟩:=ad W.heap.size;have h:Bt W b:=by rw[<-F];exact((Gr.refl W).alloc _).below
 have d:b.heap[A]?=some (.cells #[Iq (i:Int),Iq w] 250 (0,0)):=by rw[<-F,<-hA];show(W.heap.push _)[W.heap.size]?=_;exact Kv
 have zc:=(aD.1 K).1;have f:=(h.block o zc).trans K;have v:=qH<|hm.kept (ac (row:=none) h) rn;have y:=qH<|v.kept (W':=b.drew) (row:=none) (ac (uy (af _ b))) rn;have k0:b.cell? (aj A 0)=some (Iq (i:Int)):=by rw[Lib.cell_of_heap d];rfl
 have k1:b.cell? (aj A 1)=some (Iq w):=by rw[Lib.cell_of_heap d];rfl
 have m0:b.cell? (aj o 0)=some (Sq g N C):=by rw[Lib.cell_of_heap f];rfl
 have m2:b.cell? (aj o 2)=some (.map (some r)):=by rw[Lib.cell_of_heap f];rfl
 have a:=qH<|λt x ht=>(h.cell (p:=(aj g _)) hg).trans (hC t x ht);have q:=qH<|h;have zn:(i:Int)<(N:Int):=dg
 rcases y.look l m with B|⟨c,B⟩;·unfold kA at B;clear f d h K;go_enter func89,ntmps89;go_wp2;go_region;all_goals go_wp2;go_ret;exact⟨rfl,ac (uy q),y.mono dg⟩
 ·unfold kA at B;have q0:b.cell? (aj g (i*16))=some (Iq kd):=a 0 _ rfl;have q1:b.cell? (aj g (i*16+1))=some (Iq Q):=a 1 _ rfl;have q2:b.cell? (aj g (i*16+2))=some (Iq R):=a 2 _ rfl;have q3:b.cell? (aj g (i*16+3))=some (Iq S):=a 3 _ rfl;have q4:b.cell? (aj g (i*16+4))=some (Iq T):=a 4 _ rfl;have q5:b.cell? (aj g (i*16+5))=some (Iq V):=a 5 _ rfl;have q6:b.cell? (aj g (i*16+6))=some (Iq X):=a 6 _ rfl;have q7:b.cell? (aj g (i*16+7))=some (Iq Y):=a 7 _ rfl;have q8:b.cell? (aj g (i*16+8))=some (Iq Z):=a 8 _ rfl;have q9:b.cell? (aj g (i*16+9))=some (Iq a8):=a 9 _ rfl;have zq:b.cell? (aj g (i*16+10))=some (Iq a9):=a 10 _ rfl;have zr:b.cell? (aj g (i*16+11))=some (Iq b0):=a 11 _ rfl;have zt:b.cell? (aj g (i*16+12))=some (Iq b1):=a 12 _ rfl;have zu:b.cell? (aj g (i*16+13))=some (.string tx):=a 13 _ rfl;have zv:b.cell? (aj g (i*16+14))=some (kv):=a 14 _ rfl;have zw:b.cell? (aj g (i*16+15))=some (Iq up):=a 15 _ rfl;have WC:=qH<|G b.drew (uy q) y;have zg:=v.ne f;have zb:=v.ne d;have M:=qH<|f;have L:=qH<|d;have ze:=(aD.1 f).1;have za:=(aD.1 d).1;clear f d h K G;go_enter func89,ntmps89;go_wp2;go_region;all_goals
   go_wp2_with fail;refine WC.mono ?_;rintro e U ⟨x,rfl,hx,s,P⟩;have zl:b.drew.heap.size=b.heap.size:=rfl;have E:=(s.block o ze (λe=>zg (by simpa using e))).trans M;have z:=(s.block A za (λe=>zb (by simpa using e))).trans L;have v0:U.cell? (aj A 0)=some (Iq (i:Int)):=by rw[Lib.cell_of_heap z];rfl
   have v1:U.cell? (aj A 1)=some (Iq w):=by rw[Lib.cell_of_heap z];rfl
   have v2:U.cell? (aj o 2)=some (.map (some r)):=by rw[Lib.cell_of_heap E];rfl
   have O:=qH<|P.kept (W':=U.drew) (row:=none) (ac (uy (af _ U))) rn;have D:pN (H i w):=by rw[<-hx];have:=bQ x;unfold pN;omega
   obtain⟨U2,zh,I,j⟩:=O.put l m D dg;unfold kA at zh;have zk:=qH<|I;have zj:Hid (W.grownBy U2 (some r)):=by have g1:W.grownBy b.drew (some r):=ac (uy q);have g2:=g1.trans s;have g3:=g2.trans (ac (uy (af _ U)));exact g3.trans j
   have LN:=qH<|λu=>by have:=length_any x u;rw[hx]at this;exact this
   clear E z I j hx;go_wp2_with(go_at_call 47;refine(LN _).mono ?_;rintro e u ⟨rfl,hu⟩;obtain rfl:=hu.symm);go_region;all_goals go_wp2;go_ret;simp_all
def fB(kd a0 a1 a2 a3 a4 a5 a6 a7 a8 a9 b0 b1:Int)(tx:ByteArray)(kv:Value)(up:Int):Value:=.agg #[Iq kd,Iq a0,Iq a1,Iq a2,Iq a3,Iq a4,Iq a5,Iq a6,Iq a7,Iq a8,Iq a9,Iq b0,Iq b1,.string tx,kv,Iq up]
def gS(kd a5 a6:Int):Int:=if kd=3 then a6+a5 else 0
def fE(a4:Int)(m:Nat):Int:=a4*max 0 ((m:Int)-1)
def m5(n m:Int):Int:=if m<0 then n else min n m
theorem Bc{kd a b}(c:0<=a/\a<=1000000)(d:0<=b/\b<=1000000):0<=gS kd a b/\gS kd a b<=2000000:=by grind[gS]
theorem kU(kd g h i j k a b l n o q r up:Int)(tx:ByteArray)(p:Option Addr)(m c:Nat)(t:0<=a/\a<=1000000)(u:0<=b/\b<=1000000)(w:World):
 Cw 88 #[fB kd g h i j k a b l n o q r tx (.slice p m c) up] w λe w'=>e=Rw (Iq (gS kd a b))/\Hid (Bt w w'):=by
 unfold fB;by_cases d:kd=3
 ·subst d;have f:gS 3 a b=b+a:=by unfold gS;rw[if_pos rfl]
  rw[f];go_enter func88,ntmps88;go_wp2;go_ret;exact⟨by go_num,((Gr.refl w).alloc _).below⟩
 ·have f:gS kd a b=0:=by unfold gS;rw[if_neg d]
  have s:(kd !=3)=true:=by simpa using d
  rw[f];go_enter func88,ntmps88;go_wp2;go_ret;exact⟨rfl,((Gr.refl w).alloc _).below⟩
theorem xf(kd g h i j a k l o r s t u up:Int)(tx:ByteArray)(p:Option Addr)(m c:Nat)(f:0<=a/\a<=1000000)(z:m<=1000000)(w:World):
    Cw 87 #[fB kd g h i j a k l o r s t u tx (.slice p m c) up] w λe w'=>e=Rw (Iq (fE a m))/\Hid (Bt w w'):=by
  unfold fB;obtain⟨q,x⟩:=ad (max 0 ((m:Int)-1));have b:0<=q/\q<=1000000:=dg;have d:0<=a*q/\a*q<=1000000*1000000:=⟨gx f.1 b.1,kP f.2 b.2 b.1 dg⟩;have y:IntKind.i64.wrap (a*q)=a*q:=IntWalk.i64_in _ dg;have v:fE a m=a*q:=by unfold fE;rw[x]
  rw[v];go_enter func87,ntmps87;go_wp2;all_goals
    go_ret;refine⟨?_,((Gr.refl w).alloc _).below⟩;refine congrArg (λn:Int=>Ending.returned (Iq n)) (?_:_=a*q);first
      | (have e:q=(m:Int)-1:=dg
         rw[e]at d⊢;exact IntWalk.wrap64_in _ dg)
      | (have e:q=0:=dg
         rw[e,Ef];exact IntWalk.wrap64_in _ dg)
theorem atMost_any(n m:Int)(w:World):Cw 215 #[Iq n,Iq m] w λe w'=>e=Rw (Iq (m5 n m))/\w'=w:=by
 by_cases h:m<0
 ·have a:m5 n m=n:=by unfold m5;rw[if_pos h]
  rw[a];go_enter func215,ntmps215;go_wp2;go_ret;simp_all
 ·have a:m5 n m=min n m:=by unfold m5;rw[if_neg h]
  rw[a];go_enter func215,ntmps215;go_wp2;all_goals go_ret;refine⟨?_,rfl⟩;refine congrArg (λn:Int=>Ending.returned (Iq n)) (?_:_=min n m);omega
theorem Bm(n:Int)(w:World):Cw 19 #[Iq n] w λe w'=>e=Rw (.bool (decide (1<=n/\n<=400)))/\w'=w:=by
 by_cases h1:1<=n
 ·by_cases a:n<=400;·rw[decide_eq_true (show 1<=n/\n<=400 from⟨h1,a⟩)];go_enter func19,ntmps19;go_wp2;go_ret;simp_all
  ·rw[decide_eq_false (show¬(1<=n/\n<=400)from λe=>a e.2)];go_enter func19,ntmps19;go_wp2;go_ret;simp_all
 ·rw[decide_eq_false (show¬(1<=n/\n<=400)from λe=>h1 e.1)];go_enter func19,ntmps19;go_wp2;go_ret;simp_all
def hS(h:Nat->Int):Nat->Int
 |0=>0
 |k+1=>hS h k+h k
def hG(h:Nat->Int):Nat->Int
 |0=>0
 |k+1=>max (hG h k) (h k)
def cS(c:Nat->Nat):Nat->Nat
 |0=>0
 |k+1=>cS c k+c k
theorem xq{h}{m}(hh:∀j,j<m->0<=h j/\h j<=100000):∀k,k<=m->0<=hS h k/\hS h k<=100000*(k:Int)
 |0,_=>by simp[hS]
 |k+1,a=>by have h1:=xq hh k dg;grind[hS]
theorem xp{h}{m}(hh:∀j,j<m->0<=h j/\h j<=100000):∀k,k<=m->0<=hG h k/\hG h k<=100000
 |0,_=>by simp[hG]
 |k+1,a=>by have h1:=xp hh k dg;grind[hG]
def mw(kd a4 a5 a6:Int)(h:Nat->Int)(m:Nat):Int:=if kd=1 then hS h m+fE a4 m else hG h m+2*gS kd a5 a6
def fL(W:World)(r:Nat)(p:Option Addr)(m:Nat)(v:Nat->Int):Prop:=m=0\/∃b o,p=some (aj b o)/\b<W.heap.size/\b≠r/\∀j,j<m->W.cell? (aj b (o+j))=some (Iq (v j))
theorem fL.grown{W a}{r m}{p}{v}(h:fL W r p m v)(d:W.grownBy a (some r)):fL a r p m v:=by
 rcases h with h|⟨b,o,e,h1,c,f⟩;·exact .inl h
 ·exact .inr ⟨b,o,e,zz007 h1 d.size,c,λj g=>(bf (d.block b h1 (λq=>c rd))).trans (f j g)⟩
def Ni(U U':World)(r m:Nat)(kd a4 a5 a6:Int)(ks:Nat->Nat)(H:Nat->Int->Int)(R_:(Nat->Int)->Prop)(n:Nat)(e:Ending):Prop:=∃V,R_ V/\e=Rw (Iq (mw kd a4 a5 a6 (λj=>H (ks j) (V j)) m))/\U.grownBy U' (some r)/\bm U' r H n
def jP(U U':World)(r m:Nat)(H:Nat->Int->Int)(R_:(Nat->Int)->Prop)(n:Nat)(e:Ending):Prop:=∃q cq V,R_ V/\e=Rw (.slice q m cq)/\fL U' r q m V/\U.grownBy U' (some r)/\bm U' r H n
theorem MX(mb r n m:Nat)(w:Int)(H:Nat->Int->Int)(L:(Nat->Int)->Prop)(J:Nat->Nat)(kc:Nat->Nat)(i M N O P l o s Q R T W X up:Int)(tx:ByteArray)(p:Option Addr)(c:Nat)(U:World)(zA:i≠5)(hm:m<=1000)(h4:0<=l/\l<=1000000)(h5:0<=o/\o<=1000000)(h6:0<=s/\s<=1000000)(zz:Hid (∀j v,j<m->0<=H (J j) v/\H (J j) v<=100000))(zB:Hid (∀j,j<m->J j<=1000000))(hr:r<U.heap.size)(hM:Hid (bm U r H n))(hK:Hid (fL U r p m (λj=>(J j:Int))))(KW:Hid (∀u,Bt U u->bm u r H n->Cw 209 #[Pq mb,fB i M N O P l o s Q R T W X tx (.slice p m c) up,Iq w] u λe u'=>jP u u' r m H L n e))(zt:Hid (∀V,L V->∀j u nn,j<m->U.grownBy u (some r)->bm u r H nn->nn<=n+cS kc j->Cw 89 #[Pq mb,Iq (J j:Int),Iq (V j)] u λe u'=>e=Rw (Iq (H (J j) (V j)))/\Hid (u.grownBy u' (some r))/\Hid (bm u' r H (n+cS kc (j+1))))):
 Cw 168 #[Pq mb,fB i M N O P l o s Q R T W X tx (.slice p m c) up,Iq w] U λe U'=>Ni U U' r m i l o s J H L (n+cS kc m) e:=by
 have e5:(i==5)=false:=by simpa using zA
 obtain⟨ob,zQ⟩:∃z:Obj,Obj.cells #[Iq i,Iq M,Iq N,Iq O,Iq P,Iq l,Iq o,Iq s,Iq Q,Iq R,Iq T,Iq W,Iq X,.string tx,.slice p m c,Iq up] 57=z:=⟨_,rfl⟩;obtain⟨b,Z⟩:=ad (U.alloc (.cells #[Iq i,Iq M,Iq N,Iq O,Iq P,Iq l,Iq o,Iq s,Iq Q,Iq R,Iq T,Iq W,Iq X,.string tx,.slice p m c,Iq up] 57));obtain⟨A,hA⟩:=ad U.heap.size;have zj:Bt U b:=by rw[<-Z];exact((Gr.refl U).alloc _).below
 have zi:b.heap[A]?=some (.cells #[Iq i,Iq M,Iq N,Iq O,Iq P,Iq l,Iq o,Iq s,Iq Q,Iq R,Iq T,Iq W,Iq X,.string tx,.slice p m c,Iq up] 57 (0,0)):=by rw[<-Z,<-hA];show(U.heap.push _)[U.heap.size]?=_;exact Kv
 have a:Hid (∀u,b.grownBy u (some r)->∀t x,(#[Iq i,Iq M,Iq N,Iq O,Iq P,Iq l,Iq o,Iq s,Iq Q,Iq R,Iq T,Iq W,Iq X,.string tx,.slice p m c,Iq up]:Array Value)[t]?=some x->u.cell? (aj A t)=some x):=λu hu t x ht=>by have zL:=(aD.1 zi).1;have:=hu.block A zL (λe=>rd);rw[Lib.cell_of_heap (this.trans zi)];exact ht
 have ze:Hid (U.grownBy b (some r)):=ac zj;have zo:=qH<|zj;have z0:=a b (ac (af _ b)) 0 _ rfl;have z1:=a b (ac (af _ b)) 1 _ rfl;have z2:=a b (ac (af _ b)) 2 _ rfl;have z3:=a b (ac (af _ b)) 3 _ rfl;have z4:=a b (ac (af _ b)) 4 _ rfl;have z5:=a b (ac (af _ b)) 5 _ rfl;have z6:=a b (ac (af _ b)) 6 _ rfl;have z7:=a b (ac (af _ b)) 7 _ rfl;have z8:=a b (ac (af _ b)) 8 _ rfl;have z9:=a b (ac (af _ b)) 9 _ rfl;have zR:=a b (ac (af _ b)) 10 _ rfl;have zS:=a b (ac (af _ b)) 11 _ rfl;have zT:=a b (ac (af _ b)) 12 _ rfl;have zU:=a b (ac (af _ b)) 13 _ rfl;have zV:=a b (ac (af _ b)) 14 _ rfl;have zX:=a b (ac (af _ b)) 15 _ rfl;clear zj zi zQ;unfold fB at KW⊢;go_enter func168,ntmps168;go_wp2_with fail;refine(KW _ zo (hM.kept (ac (row:=none) zo) rn)).mono ?_;rintro e U2 ⟨q,cq,V,zm,rfl,hv,zc,zD⟩;have zw:=qH<|zm;have HV:=qH<|hv;have I:=qH<|zc;have K:=qH<|ze.trans I;have zu:=qH<|zD;have zr:=qH<|hK.grown K;obtain⟨h,zk⟩:∃h:Nat->Int,(λj=>H (J j) (V j))=h:=⟨_,rfl⟩;have hh:Hid (∀j,j<m->0<=h j/\h j<=100000):=by rw[<-zk];exact λj hj=>zz j _ hj
 have HK:Hid (∀j u nn,j<m->U.grownBy u (some r)->bm u r H nn->nn<=n+cS kc j->Cw 89 #[Pq mb,Iq (J j:Int),Iq (V j)] u λe u'=>e=Rw (Iq (h j))/\Hid (u.grownBy u' (some r))/\Hid (bm u' r H (n+cS kc (j+1)))):=by rw[<-zk];exact zt V zm
 have zb:Hid (∀e u,e=Rw (Iq (mw i l o s h m))->U.grownBy u (some r)->bm u r H (n+cS kc m)->Ni U u r m i l o s J H L (n+cS kc m) e):=λe u h1 h2 h3=>⟨V,zw,rd,h2,h3⟩;have zE:=a U2 I 14 _ rfl;clear z0 z1 z2 z3 z4 z5 z6 z7 z8 z9 zR zS zT zU zV zX KW zk zm hv zc zD zt zz;generalize zP:Value.agg #[Iq i,Iq M,Iq N,Iq O,Iq P,Iq l,Iq o,Iq s,Iq Q,Iq R,Iq T,Iq W,Iq X,.string tx,.slice p m c,Iq up]=nv;go_wp2_with fail;go_loopw[7,8,26] (λsv gv kv wr=>∃k:Nat,k<=m/\kv=Iq (k:Int)/\sv=Iq (hS h k)/\gv=Iq (hG h k)/\Hid (U2.grownBy wr (some r))/\Hid (bm wr r H (n+cS kc k))) (λ_ _ kv _=>m-(intOf kv).toNat);case atStart=>exact⟨0,aR _,rfl,rfl,rfl,ac (af _ _),zu⟩
 case round=>
  obtain⟨k,hk,rfl,rfl,rfl,y,zg⟩:=hrel;by_cases E:k<m
  ·have zC:(k:Int)<(m:Int):=dg
   have D:=xq hh k hk;have C:=xp hh k hk;have za:=hh k E;have zO:=zB k E;obtain⟨kb,ko,rfl,_,_,zx⟩:=(zr.grown y).resolve_left dg;obtain⟨vb,vo,rfl,_,_,zy⟩:=(HV.grown y).resolve_left dg;have cv:=zy k E;have HC:=qH<|HK k wr _ E (K.trans y) zg (ae _);obtain⟨S,f⟩:=ad (hS h k);obtain⟨G,Y⟩:=ad (hG h k);obtain⟨x,hx⟩:=ad (h k);obtain⟨vv,zn⟩:=ad (V k);have ck:=zx k E;have zK:Hid (hS h (k+1)=S+x):=by show _=_;rw[<-f,<-hx];rfl
   have ze:Hid (hG h (k+1)=max G x):=by show _=_;rw[<-Y,<-hx];rfl
   rw[f]at D;rw[Y]at C;rw[hx]at za HC;rw[zn]at HC;rw[zn]at cv;rw[f,Y];have zH:=qH<|D;have zF:=qH<|C;have zG:=qH<|za;clear f Y hx zn zx zy D C za zO Z hA zE h4 h5 h6 zA hr;go_wp2_with(go_at_call 89;refine HC.mono ?_;rintro e wz ⟨rfl,zI,zJ⟩;have D:=zH.out;have C:=zF.out;have za:=zG.out);all_goals
    go_roundw;case rel=>exact⟨k+1,E,by go_num,by rw[zK.out],by rw[ze.out];grind,y.trans zI,zJ⟩
    case measure=>simp[intOf];omega
  ·have zC:¬(k:Int)<(m:Int):=dg
   obtain rfl:k=m:=dg;have d:=qH<|I.trans y;have y0:=a wr d 0 _ rfl;have y1:=a wr d 1 _ rfl;have y2:=a wr d 2 _ rfl;have y3:=a wr d 3 _ rfl;have y4:=a wr d 4 _ rfl;have y5:=a wr d 5 _ rfl;have y6:=a wr d 6 _ rfl;have y7:=a wr d 7 _ rfl;have y8:=a wr d 8 _ rfl;have y9:=a wr d 9 _ rfl;have zY:=a wr d 10 _ rfl;have zZ:=a wr d 11 _ rfl;have y12:=a wr d 12 _ rfl;have y13:=a wr d 13 _ rfl;have y14:=a wr d 14 _ rfl;have y15:=a wr d 15 _ rfl;have D:=xq hh k hk;have C:=xp hh k hk;have GA:=qH<|λu=>xf i M N O P l o s Q R T W X up tx p k c h4 dg u;have FA:=qH<|λu=>kU i M N O P l o s Q R T W X up tx p k c h5 h6 u;have zN:0<=fE l k/\fE l k<=1000000000000:=by
    unfold fE;have zl:0<=max 0 ((k:Int)-1)/\max 0 ((k:Int)-1)<=1000000:=dg;exact⟨gx h4.1 zl.1,kP h4.2 zl.2 zl.1 dg⟩
   have zM:=Bc (kd:=i) h5 h6;unfold fB at GA FA;have zq:Hid (∀u,Bt wr u->U.grownBy u (some r)):=λu hu=>(K.trans y).trans (ac hu);have zv:Hid (∀u,Bt wr u->bm u r H (n+cS kc k)):=λu hu=>zg.kept (ac (row:=none) hu) rn;clear Z hA hr hh zB hM hK HK HV zr a y zg K zu zw;rw[zP]at GA FA;by_cases h1:i=1
   ·subst h1;have g:mw 1 l o s h k=hS h k+fE l k:=by unfold mw;rw[if_pos rfl]
    obtain⟨S,f⟩:=ad (hS h k);obtain⟨gg,B⟩:=ad (fE l k);rw[f,B]at g;have zh:=qH<|g;rw[f]at D⊢;rw[B]at zN GA;clear f B g;go_wp2_with(go_at_call 87;refine(GA _).mono ?_;rintro e wz ⟨rfl,F⟩);go_ret;exact zb _ _ (by rw[zh.out];rfl) (zq _ F) (zv _ F)
   ·have g:mw i l o s h k=hG h k+2*gS i o s:=by unfold mw;rw[if_neg h1]
    have e1:(i==1)=false:=by simpa using h1
    obtain⟨S,f⟩:=ad (hG h k);obtain⟨gg,B⟩:=ad (gS i o s);rw[f,B]at g;have zh:=qH<|g;rw[f]at C⊢;rw[B]at zM FA;clear f B g;go_wp2_with(go_at_call 88;refine(FA _).mono ?_;rintro e wz ⟨rfl,F⟩);go_ret;exact zb _ _ (by rw[zh.out];rfl) (zq _ F) (zv _ F)
