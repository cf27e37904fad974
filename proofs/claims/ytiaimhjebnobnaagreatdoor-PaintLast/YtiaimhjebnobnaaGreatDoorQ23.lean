import Derived.Test.YtiaimhjebnobnaaGreatDoorQ02
import Derived.Test.YtiaimhjebnobnaaGreatDoorQ11
import Derived.DeepKeys4
set_option linter.all false
set_option maxRecDepth 100000
set_option maxHeartbeats 16000000
namespace Go.Proofs.YtiaimhjebnobnaaGreatDoor
open Go.RowKit Go.Sort Go.Proofs.Tryz
def tY(n:Int):Prop:=-9223372036854775808<=n/\n<=9223372036854775807
theorem tY.wf{n}(h:tY n):(Lit.int .i64 n).wf=true:=by
 unfold tY at h;have e1:IntKind.i64.min=-9223372036854775808:=by decide
 have e2:IntKind.i64.max=9223372036854775807:=by decide
 simp[Lit.wf,e1,e2];omega
def kA(i w:Int):Value:=.agg #[.int .i64 i,.int .i64 w]
def kL(i w:Int):Lit:=.string (keyBytes [.int .i64 i,.int .i64 w])
theorem vy{i w:Int}(hi:tY i)(hw:tY w):keyOf prog 246 (kA i w)=some (kL i w):=by
 have h1:=hi.wf;have h2:=hw.wf;have hk:prog.keyType 246=true:=by kernel_rfl
 have hf:(kA i w).formed prog 246=true:=by unfold kA Value.formed;rw[underlying246];show(2==prog.cellsOf 246)=true;kernel_rfl
 obtain⟨m,hm⟩:∃m,prog.types.size+1=m+2:=⟨prog.types.size-1,by kernel_rfl⟩;have hc:prog.cellsOf 246=2:=by kernel_rfl
 have hc3:prog.cellsOf 3=1:=by kernel_rfl
 have hl:prog.keyLits (m+2) 246 [.int .i64 i,.int .i64 w]=some [.int .i64 i,.int .i64 w]:=by simp[Program.keyLits,underlying246,underlying3,hc,hc3,h1,h2]
 unfold keyOf;rw[underlying246];dsimp only;rw[hk,hf,hm];show(if(true&&true)=true then((prog.keyLits (m+2) 246 [.int .i64 i,.int .i64 w]).map fun ls=>Lit.string (keyBytes ls))else none)=_;rw[hl];rfl
theorem I':WideMaps.KeyLaw prog 246:=deep_law_laid (by kernel_rfl) (m:=5) (by omega) (of_decide_eq_true (by kernel_rfl)) (by kernel_rfl) (by kernel_rfl)
theorem PV:Maps.Keyed prog 246:=Maps.Keyed.of_law I'
theorem Zy{i w j v}(hi:tY i)(hw:tY w)(hj:tY j)(hv:tY v)(h:kL i w=kL j v):i=j/\w=v:=by have h1:=vy hi hw;have h2:=vy hj hv;rw[<-h]at h2;have:=I'.inj h1 h2;grind[kA]
structure bN(W:World)(r:Nat)(H:Nat->Int->Int)(n:Nat):Prop where
 own:∃D:DataW Unit,W.ownsMap prog 246 (plainElem prog 3) r n D/\∀(i:Nat) (w:Int),tY i->tY w->Maps.has D (kL i w)=true->D.atKey (kL i w) (.lit (.int .i64 0))=.lit (.int .i64 (H i w))
theorem bN.new(w:World)  H  :bN (w.alloc (.map #[] 0)) w.heap.size H 0:=by refine⟨.map [],World.ownsMap_made w _ _ _,fun i v _ _ h=>?_⟩;simp[Maps.has]at h
theorem bN.kept{W W'}{r n}{H}{row}(h:bN W r H n)(hg:W.grownBy W' row)(bZ:some r≠row):bN W' r H n:=by obtain⟨D,h1,h2⟩:=h.own;exact⟨D,h1.kept hg bZ,h2⟩
theorem bN.mono{W}{r n n'}{H}(h:bN W r H n)(hn:n<=n'):bN W r H n':=by obtain⟨D,h1,h2⟩:=h.own;exact⟨D,h1.mono hn,h2⟩
theorem bN.lt{W}{r n}{H}(h:bN W r H n):r<W.heap.size:=by obtain⟨D,h1,_⟩:=h.own;exact h1.lt
theorem bN.look{W}{r n}{H}(h:bN W r H n){i:Nat}{w}(hi:tY i)(hw:tY w):
 (Instr.lookup 120 (.map (some r)) (kA i w) true).run prog W=.ok (.tuple #[.int .i64 (H i w),.bool true]) W\/∃c,(Instr.lookup 120 (.map (some r)) (kA i w) true).run prog W=.ok (.tuple #[.int .i64 c,.bool false]) W:=by
 obtain⟨D,h1,h2⟩:=h.own;obtain⟨v,ps,Li,hv⟩:=h1.look_ok PV (t:=120) (e:=3) (by kernel_rfl) (z:=.int .i64 0) (zeroValue3 W) (zd:=.lit (.int .i64 0)) (zp:=[]) (plainElem_int underlying3 (by decide)) (vy hi hw);obtain⟨c,rfl,hc,hwc⟩:=plainElem_int_inv underlying3 hv;simp only[Prod.mk.injEq]at hc;cases hb:Maps.has D (kL i w)with
 |true=>grind
 |false=>grind
theorem bN.put{W}{r n}{H}(h:bN W r H n){i:Nat}{w}(hi:tY i)(hw:tY w)(hH:tY (H i w))(hn:n<1000000000000):
 ∃W',(Instr.mapUpdate 120 (.map (some r)) (kA i w) (.int .i64 (H i w))).run prog W=.ok () W'/\bN W' r H (n+1)/\W.grownBy W' (some r):=by
 obtain⟨D,h1,h2⟩:=h.own;obtain⟨W',Li,ho,hg⟩:=h1.update PV (t:=120) (e:=3) (by kernel_rfl) (by unfold maxLen;omega) (vy hi hw) (plainElem_int underlying3 hH.wf);refine⟨W',Li,⟨_,ho,fun j v hj hv hb=>?_⟩,hg⟩;by_cases e:kL j v=kL i w
 ·obtain⟨e1,e2⟩:=Zy hj hv hi hw e;have e1:j=i:=by omega
  subst e1;subst e2;exact Maps.atKey_put_same (h1.isMap) (PV.key (vy hi hw)) _ _
 ·rw[Maps.atKey_put_other e];rw[Maps.has_put_other e]at hb;grind
def Ms(W:World)(mb:Nat)(nv wv:Value)(r:Nat):Prop:=W.heap[mb]?=some (.cells #[nv,wv,.map (some r)] 122 (0,0))
theorem ac{W W'}{row}(h:Bt W W'):W.grownBy W' row:=⟨h.os,h.tape,h.output,h.size,fun b hb _=>h.block b hb⟩
theorem bN.map{W}{r n}{H}(h:bN W r H n):∃es Cn,W.heap[r]?=some (.map es Cn):=by obtain⟨D,⟨es,Cn,hb,_⟩,_⟩:=h.own;grind
theorem bN.ne{W}{r n b}{H}(h:bN W r H n){c}{t}{fz}(hb:W.heap[b]?=some (.cells c t fz)):b≠r:=by intro e;subst e;obtain⟨es,Cn,hm⟩:=h.map;grind
theorem K6(mb r g i n k N cap:Nat)(w:Int)(H:Nat->Int->Int)(wv:Value)(kd a0 a1 a2 a3 a4 a5 a6 a7 a8 a9 b0 b1 up:Int)(tx:ByteArray)(kv:Value)(W:World)
 (hM:Ms W mb (Sq g N cap) wv r) (hm:Hid (bN W r H n)) (hi:i<N) (hN:N<=1000000) (zcC:tY i) (zdf:tY w) (hnk:n+k+1<1000000000000)
 (hg:g<W.heap.size) (fY:g≠r) (hC:Hid (∀t x,(#[Iq kd,Iq a0,Iq a1,Iq a2,Iq a3,Iq a4,Iq a5,Iq a6,Iq a7,Iq a8,Iq a9,Iq b0,Iq b1,.string tx,kv,Iq up]:Array Value)[t]?=some x->W.cell? (az g (i*16+t))=some x))
 (hWk:Hid (∀U,Bt W U->bN U r H n->Cw 167 #[Pq mb,.agg #[Iq kd,Iq a0,Iq a1,Iq a2,Iq a3,Iq a4,Iq a5,Iq a6,Iq a7,Iq a8,Iq a9,Iq b0,Iq b1,.string tx,kv,Iq up],Iq w] U fun e U'=>∃x,e=Rw (Iq x)/\bc x=H i w/\Hid (U.grownBy U' (some r))/\Hid (bN U' r H (n+k)))):
 Cw 105 #[Pq mb,Iq (i:Int),Iq w] W fun e W'=>e=Rw (Iq (H i w))/\Hid (W.grownBy W' (some r))/\Hid (bN W' r H (n+k+1)):=by
 have kD:prog.follows .mixedOrders=true:=by kernel_rfl
 obtain⟨W1,cC⟩:=ag (W.alloc (.cells #[Iq (i:Int),Iq w] 246));obtain⟨A,hA⟩:=ag W.heap.size;have hb1:Bt W W1:=by rw[<-cC];exact((Gr.refl W).alloc _).below
 have hA1:W1.heap[A]?=some (.cells #[Iq (i:Int),Iq w] 246 (0,0)):=by rw[<-cC,<-hA];show(W.heap.push _)[W.heap.size]?=_;exact RL
 have yw:=(aM.1 hM).1;have hM1:=(hb1.block mb yw).trans hM;have HM1:=qH<|hm.kept (ac (row:=none) hb1) (by simp);have Nh:=qH<|HM1.kept (W':=W1.drew) (row:=none) (ac (zk (aj _ W1))) (by simp);have k0:W1.cell? (az A 0)=some (Iq (i:Int)):=by rw[Lib.cell_of_heap hA1];rfl
 have k1:W1.cell? (az A 1)=some (Iq w):=by rw[Lib.cell_of_heap hA1];rfl
 have m0:W1.cell? (az mb 0)=some (Sq g N cap):=by rw[Lib.cell_of_heap hM1];rfl
 have m2:W1.cell? (az mb 2)=some (.map (some r)):=by rw[Lib.cell_of_heap hM1];rfl
 have kx:=qH<|fun t x ht=>(hb1.cell (p:=(az g _)) hg).trans (hC t x ht);have HB1:=qH<|hb1;have hiI:(i:Int)<(N:Int):=by omega
 rcases Nh.look zcC zdf with hlk|⟨c,hlk⟩;·unfold kA at hlk;clear hM1 hA1 hb1 hM;go_enter func105,ntmps105;go_wp2;go_region;all_goals go_wp2;go_ret;exact⟨rfl,ac (zk HB1),Nh.mono (by omega)⟩
 ·unfold kA at hlk;have q0:W1.cell? (az g (i*16))=some (Iq kd):=kx 0 _ rfl;have q1:W1.cell? (az g (i*16+1))=some (Iq a0):=kx 1 _ rfl;have q2:W1.cell? (az g (i*16+2))=some (Iq a1):=kx 2 _ rfl;have q3:W1.cell? (az g (i*16+3))=some (Iq a2):=kx 3 _ rfl;have q4:W1.cell? (az g (i*16+4))=some (Iq a3):=kx 4 _ rfl;have q5:W1.cell? (az g (i*16+5))=some (Iq a4):=kx 5 _ rfl;have q6:W1.cell? (az g (i*16+6))=some (Iq a5):=kx 6 _ rfl;have q7:W1.cell? (az g (i*16+7))=some (Iq a6):=kx 7 _ rfl;have q8:W1.cell? (az g (i*16+8))=some (Iq a7):=kx 8 _ rfl;have q9:W1.cell? (az g (i*16+9))=some (Iq a8):=kx 9 _ rfl;have q10:W1.cell? (az g (i*16+10))=some (Iq a9):=kx 10 _ rfl;have q11:W1.cell? (az g (i*16+11))=some (Iq b0):=kx 11 _ rfl;have q12:W1.cell? (az g (i*16+12))=some (Iq b1):=kx 12 _ rfl;have q13:W1.cell? (az g (i*16+13))=some (.string tx):=kx 13 _ rfl;have q14:W1.cell? (az g (i*16+14))=some (kv):=kx 14 _ rfl;have q15:W1.cell? (az g (i*16+15))=some (Iq up):=kx 15 _ rfl;have WC:=qH<|hWk W1.drew (zk HB1) Nh;have hmr:=HM1.ne hM1;have hAr:=HM1.ne hA1;have Ni:=qH<|hM1;have JS:=qH<|hA1;have BG:=(aM.1 hM1).1;have Gb:=(aM.1 hA1).1;clear hM1 hA1 hb1 hM hWk;go_enter func105,ntmps105;go_wp2;go_region;all_goals
   go_wp2_with fail;refine WC.mono ?_;rintro e U ⟨x,rfl,hx,HGU,HMU⟩;have Fu:W1.drew.heap.size=W1.heap.size:=rfl;have hM4:=(HGU.block mb BG (fun e=>hmr (by simpa using e))).trans Ni;have hA4:=(HGU.block A Gb (fun e=>hAr (by simpa using e))).trans JS;have v0:U.cell? (az A 0)=some (Iq (i:Int)):=by rw[Lib.cell_of_heap hA4];rfl
   have v1:U.cell? (az A 1)=some (Iq w):=by rw[Lib.cell_of_heap hA4];rfl
   have v2:U.cell? (az mb 2)=some (.map (some r)):=by rw[Lib.cell_of_heap hM4];rfl
   have Wh:=qH<|HMU.kept (W':=U.drew) (row:=none) (ac (zk (aj _ U))) (by simp);have zhh:tY (H i w):=by rw[<-hx];have:=cH x;unfold tY;omega
   obtain⟨U2,hup,hme,hgr2⟩:=Wh.put zcC zdf zhh (by omega);unfold kA at hup;have HME:=qH<|hme;have XQ:Hid (W.grownBy U2 (some r)):=by have g1:W.grownBy W1.drew (some r):=ac (zk HB1);have g2:=g1.trans HGU;have g3:=g2.trans (ac (zk (aj _ U)));exact g3.trans hgr2
   have LN:=qH<|fun u=>by have:=length_any x u;rw[hx]at this;exact this
   clear hM4 hA4 hme hgr2 hx;go_wp2_with(go_at_call 57;refine(LN _).mono ?_;rintro e u ⟨rfl,hu⟩;obtain rfl:=hu.symm);go_region;all_goals go_wp2;go_ret;simp_all
def gY(kd a0 a1 a2 a3 a4 a5 a6 a7 a8 a9 b0 b1:Int)(tx:ByteArray)(kv:Value)(up:Int):Value:=.agg #[Iq kd,Iq a0,Iq a1,Iq a2,Iq a3,Iq a4,Iq a5,Iq a6,Iq a7,Iq a8,Iq a9,Iq b0,Iq b1,.string tx,kv,Iq up]
def jC(kd a5 a6:Int):Int:=if kd=3 then a6+a5 else 0
def h_(a4:Int)(m:Nat):Int:=a4*max 0 ((m:Int)-1)
def qh(n m:Int):Int:=if m<0 then n else min n m
theorem F_{kd a5 a6}(h5:0<=a5/\a5<=1000000)(h6:0<=a6/\a6<=1000000):0<=jC kd a5 a6/\jC kd a5 a6<=2000000:=by grind[jC]
theorem nt(kd a0 a1 a2 a3 a4 a5 a6 a7 a8 a9 b0 b1 up:Int)(tx:ByteArray)(p:Option Addr)(m c:Nat)(h5:0<=a5/\a5<=1000000)(h6:0<=a6/\a6<=1000000)(w:World):
 Cw 104 #[gY kd a0 a1 a2 a3 a4 a5 a6 a7 a8 a9 b0 b1 tx (.slice p m c) up] w fun e w'=>e=Rw (Iq (jC kd a5 a6))/\Hid (Bt w w'):=by
 unfold gY;by_cases h3:kd=3
 ·subst h3;have hf:jC 3 a5 a6=a6+a5:=by unfold jC;rw[if_pos rfl]
  rw[hf];go_enter func104,ntmps104;go_wp2;go_ret;exact⟨by go_num,((Gr.refl w).alloc _).below⟩
 ·have hf:jC kd a5 a6=0:=by unfold jC;rw[if_neg h3]
  have bZ:(kd !=3)=true:=by simpa using h3
  rw[hf];go_enter func104,ntmps104;go_wp2;go_ret;exact⟨rfl,((Gr.refl w).alloc _).below⟩
theorem C5(kd a0 a1 a2 a3 a4 a5 a6 a7 a8 a9 b0 b1 up:Int)(tx:ByteArray)(p:Option Addr)(m c:Nat)(h4:0<=a4/\a4<=1000000)(hm:m<=1000000)(w:World):
    Cw 103 #[gY kd a0 a1 a2 a3 a4 a5 a6 a7 a8 a9 b0 b1 tx (.slice p m c) up] w fun e w'=>e=Rw (Iq (h_ a4 m))/\Hid (Bt w w'):=by
  unfold gY;obtain⟨q,hq⟩:=ag (max 0 ((m:Int)-1));have tF:0<=q/\q<=1000000:=by omega
  have ziu:0<=a4*q/\a4*q<=1000000*1000000:=⟨jb h4.1 tF.1,nj h4.2 tF.2 tF.1 (by omega)⟩;have eQ:IntKind.i64.wrap (a4*q)=a4*q:=IntWalk.i64_in _ (by omega);have hg:h_ a4 m=a4*q:=by unfold h_;rw[hq]
  rw[hg];go_enter func103,ntmps103;go_wp2;all_goals
    go_ret;refine⟨?_,((Gr.refl w).alloc _).below⟩;refine congrArg (fun n:Int=>Ending.returned (Iq n)) (?_:_=a4*q);first
      | (have e:q=(m:Int)-1:=by omega
         rw[e]at ziu⊢;exact IntWalk.wrap64_in _ (by omega))
      | (have e:q=0:=by omega
         rw[e,JO];exact IntWalk.wrap64_in _ (by omega))
theorem atMost_any(n m:Int)(w:World):Cw 207 #[Iq n,Iq m] w fun e w'=>e=Rw (Iq (qh n m))/\w'=w:=by
 by_cases h:m<0
 ·have hf:qh n m=n:=by unfold qh;rw[if_pos h]
  rw[hf];go_enter func207,ntmps207;go_wp2;go_ret;simp_all
 ·have hf:qh n m=min n m:=by unfold qh;rw[if_neg h]
  rw[hf];go_enter func207,ntmps207;go_wp2;all_goals go_ret;refine⟨?_,rfl⟩;refine congrArg (fun n:Int=>Ending.returned (Iq n)) (?_:_=min n m);omega
theorem GD(n:Int)(w:World):Cw 28 #[Iq n] w fun e w'=>e=Rw (.bool (decide (1<=n/\n<=400)))/\w'=w:=by
 by_cases h1:1<=n
 ·by_cases h2:n<=400;·rw[decide_eq_true (show 1<=n/\n<=400 from⟨h1,h2⟩)];go_enter func28,ntmps28;go_wp2;go_ret;simp_all
  ·rw[decide_eq_false (show¬(1<=n/\n<=400)from fun e=>h2 e.2)];go_enter func28,ntmps28;go_wp2;go_ret;simp_all
 ·rw[decide_eq_false (show¬(1<=n/\n<=400)from fun e=>h1 e.1)];go_enter func28,ntmps28;go_wp2;go_ret;simp_all
def hS(h:Nat->Int):Nat->Int
 |0=>0
 |k+1=>hS h k+h k
def hG(h:Nat->Int):Nat->Int
 |0=>0
 |k+1=>max (hG h k) (h k)
def cS(c:Nat->Nat):Nat->Nat
 |0=>0
 |k+1=>cS c k+c k
theorem Df{h}{m}(hh:∀j,j<m->0<=h j/\h j<=100000):∀k,k<=m->0<=hS h k/\hS h k<=100000*(k:Int)
 |0,_=>by simp[hS]
 |k+1,hk=>by have h1:=Df hh k (by omega);grind[hS]
theorem De{h}{m}(hh:∀j,j<m->0<=h j/\h j<=100000):∀k,k<=m->0<=hG h k/\hG h k<=100000
 |0,_=>by simp[hG]
 |k+1,hk=>by have h1:=De hh k (by omega);grind[hG]
def pi(kd a4 a5 a6:Int)(h:Nat->Int)(m:Nat):Int:=if kd=1 then hS h m+h_ a4 m else hG h m+2*jC kd a5 a6
def ir(W:World)(r:Nat)(p:Option Addr)(m:Nat)(v:Nat->Int):Prop:=m=0\/∃b o,p=some (az b o)/\b<W.heap.size/\b≠r/\∀j,j<m->W.cell? (az b (o+j))=some (Iq (v j))
theorem ir.grown{W W'}{r m}{p}{v}(h:ir W r p m v)(hg:W.grownBy W' (some r)):ir W' r p m v:=by
 rcases h with h|⟨b,o,e,h1,h2,h3⟩;·exact .inl h
 ·exact .inr ⟨b,o,e,zz008 h1 hg.size,h2,fun j hj=>(bU (hg.block b h1 (fun q=>h2 (by grind)))).trans (h3 j hj)⟩
def Wx(U U':World)(r m:Nat)(kd a4 a5 a6:Int)(ks:Nat->Nat)(H:Nat->Int->Int)(J6:(Nat->Int)->Prop)(n:Nat)(e:Ending):Prop:=∃V,J6 V/\e=Rw (Iq (pi kd a4 a5 a6 (fun j=>H (ks j) (V j)) m))/\U.grownBy U' (some r)/\bN U' r H n
def mp(U U':World)(r m:Nat)(H:Nat->Int->Int)(J6:(Nat->Int)->Prop)(n:Nat)(e:Ending):Prop:=∃q cq V,J6 V/\e=Rw (.slice q m cq)/\ir U' r q m V/\U.grownBy U' (some r)/\bN U' r H n
theorem VX(mb r n m:Nat)(w:Int)(H:Nat->Int->Int)(J6:(Nat->Int)->Prop)(ks:Nat->Nat)(kc:Nat->Nat)(kd a0 a1 a2 a3 a4 a5 a6 a7 a8 a9 b0 b1 up:Int)(tx:ByteArray)(p:Option Addr)(c:Nat)(U:World)
 (WX:kd≠5) (hm:m<=1000) (h4:0<=a4/\a4<=1000000) (h5:0<=a5/\a5<=1000000) (h6:0<=a6/\a6<=1000000) (hhb:Hid (∀j v,j<m->0<=H (ks j) v/\H (ks j) v<=100000)) (ke:Hid (∀j,j<m->ks j<=1000000)) (hr:r<U.heap.size)
 (hM:Hid (bN U r H n)) (hK:Hid (ir U r p m (fun j=>(ks j:Int))))
 (KW:Hid (∀u,Bt U u->bN u r H n->Cw 201 #[Pq mb,gY kd a0 a1 a2 a3 a4 a5 a6 a7 a8 a9 b0 b1 tx (.slice p m c) up,Iq w] u fun e u'=>mp u u' r m H J6 n e))
 (HKV:Hid (∀V,J6 V->∀j u nn,j<m->U.grownBy u (some r)->bN u r H nn->nn<=n+cS kc j->Cw 105 #[Pq mb,Iq (ks j:Int),Iq (V j)] u fun e u'=>e=Rw (Iq (H (ks j) (V j)))/\Hid (u.grownBy u' (some r))/\Hid (bN u' r H (n+cS kc (j+1))))):
 Cw 167 #[Pq mb,gY kd a0 a1 a2 a3 a4 a5 a6 a7 a8 a9 b0 b1 tx (.slice p m c) up,Iq w] U fun e U'=>Wx U U' r m kd a4 a5 a6 ks H J6 (n+cS kc m) e:=by
 have e5:(kd==5)=false:=by simpa using WX
 obtain⟨ob,BH⟩:∃z:Obj,Obj.cells #[Iq kd,Iq a0,Iq a1,Iq a2,Iq a3,Iq a4,Iq a5,Iq a6,Iq a7,Iq a8,Iq a9,Iq b0,Iq b1,.string tx,.slice p m c,Iq up] 63=z:=⟨_,rfl⟩;obtain⟨U1,Ua⟩:=ag (U.alloc (.cells #[Iq kd,Iq a0,Iq a1,Iq a2,Iq a3,Iq a4,Iq a5,Iq a6,Iq a7,Iq a8,Iq a9,Iq b0,Iq b1,.string tx,.slice p m c,Iq up] 63));obtain⟨A,hA⟩:=ag U.heap.size;have hb1:Bt U U1:=by rw[<-Ua];exact((Gr.refl U).alloc _).below
 have b9:U1.heap[A]?=some (.cells #[Iq kd,Iq a0,Iq a1,Iq a2,Iq a3,Iq a4,Iq a5,Iq a6,Iq a7,Iq a8,Iq a9,Iq b0,Iq b1,.string tx,.slice p m c,Iq up] 63 (0,0)):=by rw[<-Ua,<-hA];show(U.heap.push _)[U.heap.size]?=_;exact RL
 have cZ:Hid (∀u,U1.grownBy u (some r)->∀t x,(#[Iq kd,Iq a0,Iq a1,Iq a2,Iq a3,Iq a4,Iq a5,Iq a6,Iq a7,Iq a8,Iq a9,Iq b0,Iq b1,.string tx,.slice p m c,Iq up]:Array Value)[t]?=some x->u.cell? (az A t)=some x):=fun u hu t x ht=>by have Gb:=(aM.1 b9).1;have:=hu.block A Gb (fun e=>by grind);rw[Lib.cell_of_heap (this.trans b9)];exact ht
 have HG1:Hid (U.grownBy U1 (some r)):=ac hb1;have HB1:=qH<|hb1;have z0:=cZ U1 (ac (aj _ U1)) 0 _ rfl;have z1:=cZ U1 (ac (aj _ U1)) 1 _ rfl;have z2:=cZ U1 (ac (aj _ U1)) 2 _ rfl;have z3:=cZ U1 (ac (aj _ U1)) 3 _ rfl;have z4:=cZ U1 (ac (aj _ U1)) 4 _ rfl;have z5:=cZ U1 (ac (aj _ U1)) 5 _ rfl;have z6:=cZ U1 (ac (aj _ U1)) 6 _ rfl;have z7:=cZ U1 (ac (aj _ U1)) 7 _ rfl;have z8:=cZ U1 (ac (aj _ U1)) 8 _ rfl;have z9:=cZ U1 (ac (aj _ U1)) 9 _ rfl;have SU:=cZ U1 (ac (aj _ U1)) 10 _ rfl;have SV:=cZ U1 (ac (aj _ U1)) 11 _ rfl;have SW:=cZ U1 (ac (aj _ U1)) 12 _ rfl;have SX:=cZ U1 (ac (aj _ U1)) 13 _ rfl;have VY:=cZ U1 (ac (aj _ U1)) 14 _ rfl;have SY:=cZ U1 (ac (aj _ U1)) 15 _ rfl;clear hb1 b9 BH;unfold gY at KW⊢;go_enter func167,ntmps167;go_wp2_with fail;refine(KW _ HB1 (hM.kept (ac (row:=none) HB1) (by simp))).mono ?_;rintro e U2 ⟨q,cq,V,hvk,rfl,hv,hg12,hm2⟩;have HVK:=qH<|hvk;have HV:=qH<|hv;have HG12:=qH<|hg12;have gX:=qH<|HG1.trans HG12;have Nh:=qH<|hm2;have mh:=qH<|hK.grown gX;obtain⟨h,WW⟩:∃h:Nat->Int,(fun j=>H (ks j) (V j))=h:=⟨_,rfl⟩;have hh:Hid (∀j,j<m->0<=h j/\h j<=100000):=by rw[<-WW];exact fun j hj=>hhb j _ hj
 have HK:Hid (∀j u nn,j<m->U.grownBy u (some r)->bN u r H nn->nn<=n+cS kc j->Cw 105 #[Pq mb,Iq (ks j:Int),Iq (V j)] u fun e u'=>e=Rw (Iq (h j))/\Hid (u.grownBy u' (some r))/\Hid (bN u' r H (n+cS kc (j+1)))):=by rw[<-WW];exact HKV V hvk
 have FJ:Hid (∀e u,e=Rw (Iq (pi kd a4 a5 a6 h m))->U.grownBy u (some r)->bN u r H (n+cS kc m)->Wx U u r m kd a4 a5 a6 ks H J6 (n+cS kc m) e):=fun e u h1 h2 h3=>⟨V,HVK,by grind,h2,h3⟩;have zjx:=cZ U2 HG12 14 _ rfl;clear z0 z1 z2 z3 z4 z5 z6 z7 z8 z9 SU SV SW SX VY SY KW WW hvk hv hg12 hm2 HKV hhb;generalize mN:Value.agg #[Iq kd,Iq a0,Iq a1,Iq a2,Iq a3,Iq a4,Iq a5,Iq a6,Iq a7,Iq a8,Iq a9,Iq b0,Iq b1,.string tx,.slice p m c,Iq up]=nv;go_wp2_with fail;go_loopw[7,8,26] (fun sv gv kv wr=>∃k:Nat,k<=m/\kv=Iq (k:Int)/\sv=Iq (hS h k)/\gv=Iq (hG h k)/\Hid (U2.grownBy wr (some r))/\Hid (bN wr r H (n+cS kc k))) (fun _ _ kv _=>m-(intOf kv).toNat);case atStart=>exact⟨0,aZ _,rfl,rfl,rfl,ac (aj _ _),Nh⟩
 case round=>
  obtain⟨k,hk,rfl,rfl,rfl,Mw,X0⟩:=hrel;by_cases hlt:k<m
  ·have aN:(k:Int)<(m:Int):=by omega
   have hbs:=Df hh k hk;have hbg:=De hh k hk;have hbh:=hh k hlt;have MJ:=ke k hlt;obtain⟨kb,ko,rfl,_,_,OX⟩:=(mh.grown Mw).resolve_left (by omega);obtain⟨vb,vo,rfl,_,_,OY⟩:=(HV.grown Mw).resolve_left (by omega);have cv:=OY k hlt;have HC:=qH<|HK k wr _ hlt (gX.trans Mw) X0 (ai _);obtain⟨S,tB⟩:=ag (hS h k);obtain⟨G,T_⟩:=ag (hG h k);obtain⟨x,hx⟩:=ag (h k);obtain⟨vv,hvv⟩:=ag (V k);have ck:=OX k hlt;have HS1:Hid (hS h (k+1)=S+x):=by show _=_;rw[<-tB,<-hx];rfl
   have HG1:Hid (hG h (k+1)=max G x):=by show _=_;rw[<-T_,<-hx];rfl
   rw[tB]at hbs;rw[T_]at hbg;rw[hx]at hbh HC;rw[hvv]at HC;rw[hvv]at cv;rw[tB,T_];have HBS:=qH<|hbs;have HBG:=qH<|hbg;have HBH:=qH<|hbh;clear tB T_ hx hvv OX OY hbs hbg hbh MJ Ua hA zjx h4 h5 h6 WX hr;go_wp2_with(go_at_call 105;refine HC.mono ?_;rintro e wz ⟨rfl,HGz,HMz⟩;have hbs:=HBS.out;have hbg:=HBG.out;have hbh:=HBH.out);all_goals
    go_roundw;case rel=>exact⟨k+1,hlt,by go_num,by rw[HS1.out],by rw[HG1.out];grind,Mw.trans HGz,HMz⟩
    case measure=>simp[intOf];omega
  ·have aN:¬(k:Int)<(m:Int):=by omega
   obtain rfl:k=m:=by omega
   have Fk:=qH<|HG12.trans Mw;have y0:=cZ wr Fk 0 _ rfl;have y1:=cZ wr Fk 1 _ rfl;have y2:=cZ wr Fk 2 _ rfl;have y3:=cZ wr Fk 3 _ rfl;have y4:=cZ wr Fk 4 _ rfl;have y5:=cZ wr Fk 5 _ rfl;have y6:=cZ wr Fk 6 _ rfl;have y7:=cZ wr Fk 7 _ rfl;have y8:=cZ wr Fk 8 _ rfl;have y9:=cZ wr Fk 9 _ rfl;have y10:=cZ wr Fk 10 _ rfl;have y11:=cZ wr Fk 11 _ rfl;have y12:=cZ wr Fk 12 _ rfl;have y13:=cZ wr Fk 13 _ rfl;have y14:=cZ wr Fk 14 _ rfl;have y15:=cZ wr Fk 15 _ rfl;have hbs:=Df hh k hk;have hbg:=De hh k hk;have GA:=qH<|fun u=>C5 kd a0 a1 a2 a3 a4 a5 a6 a7 a8 a9 b0 b1 up tx p k c h4 (by omega) u;have FA:=qH<|fun u=>nt kd a0 a1 a2 a3 a4 a5 a6 a7 a8 a9 b0 b1 up tx p k c h5 h6 u;have nC:0<=h_ a4 k/\h_ a4 k<=1000000000000:=by
    unfold h_;have tF:0<=max 0 ((k:Int)-1)/\max 0 ((k:Int)-1)<=1000000:=by omega
    exact⟨jb h4.1 tF.1,nj h4.2 tF.2 tF.1 (by omega)⟩
   have rl:=F_ (kd:=kd) h5 h6;unfold gY at GA FA;have XQ:Hid (∀u,Bt wr u->U.grownBy u (some r)):=fun u hu=>(gX.trans Mw).trans (ac hu);have HME:Hid (∀u,Bt wr u->bN u r H (n+cS kc k)):=fun u hu=>X0.kept (ac (row:=none) hu) (by simp);clear Ua hA hr hh ke hM hK HK HV mh cZ Mw X0 gX Nh HVK;rw[mN]at GA FA;by_cases h1:kd=1
   ·subst h1;have hraw:pi 1 a4 a5 a6 h k=hS h k+h_ a4 k:=by unfold pi;rw[if_pos rfl]
    obtain⟨S,tB⟩:=ag (hS h k);obtain⟨gg,oW⟩:=ag (h_ a4 k);rw[tB,oW]at hraw;have oN:=qH<|hraw;rw[tB]at hbs⊢;rw[oW]at nC GA;clear tB oW hraw;go_wp2_with(go_at_call 103;refine(GA _).mono ?_;rintro e wz ⟨rfl,S7⟩);go_ret;exact FJ _ _ (by rw[oN.out];rfl) (XQ _ S7) (HME _ S7)
   ·have hraw:pi kd a4 a5 a6 h k=hG h k+2*jC kd a5 a6:=by unfold pi;rw[if_neg h1]
    have e1:(kd==1)=false:=by simpa using h1
    obtain⟨S,tB⟩:=ag (hG h k);obtain⟨gg,oW⟩:=ag (jC kd a5 a6);rw[tB,oW]at hraw;have oN:=qH<|hraw;rw[tB]at hbg⊢;rw[oW]at rl FA;clear tB oW hraw;go_wp2_with(go_at_call 104;refine(FA _).mono ?_;rintro e wz ⟨rfl,S7⟩);go_ret;exact FJ _ _ (by rw[oN.out];rfl) (XQ _ S7) (HME _ S7)
