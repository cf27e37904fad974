import Derived.Test.YtbeiapdobffpiaaGreatDoorQ07
import Derived.Test.YtbeiapdobffpiaaGreatDoorQ17
import Derived.DeepKeys4
set_option linter.all false
set_option maxRecDepth 100000
set_option maxHeartbeats 16000000
namespace Go.Proofs.YtbeiapdobffpiaaGreatDoor
open Go.RowKit Go.Sort Go.Proofs.Tryz
def iX(n:Int):Prop:=-9223372036854775808<=n/\n<=9223372036854775807
theorem iX.wf{n}(h:iX n):(Lit.int .i64 n).wf=true:=by
 unfold iX at h;have e1:IntKind.i64.min=-9223372036854775808:=by decide
 have e2:IntKind.i64.max=9223372036854775807:=by decide
 simp[Lit.wf,e1,e2];omega
def kA(i w:Int):Value:=.agg #[.int .i64 i,.int .i64 w]
def kL(i w:Int):Lit:=.string (keyBytes [.int .i64 i,.int .i64 w])
theorem so{i w:Int}(hi:iX i)(hw:iX w):keyOf prog 233 (kA i w)=some (kL i w):=by
 have h1:=hi.wf;have h2:=hw.wf;have hk:prog.keyType 233=true:=by kernel_rfl
 have hf:(kA i w).formed prog 233=true:=by unfold kA Value.formed;rw[underlying233];show(2==prog.cellsOf 233)=true;kernel_rfl
 obtain⟨m,hm⟩:∃m,prog.types.size+1=m+2:=⟨prog.types.size-1,by kernel_rfl⟩;have hc:prog.cellsOf 233=2:=by kernel_rfl
 have hc3:prog.cellsOf 3=1:=by kernel_rfl
 have hl:prog.keyLits (m+2) 233 [.int .i64 i,.int .i64 w]=some [.int .i64 i,.int .i64 w]:=by simp[Program.keyLits,underlying233,underlying3,hc,hc3,h1,h2]
 unfold keyOf;rw[underlying233];dsimp only;rw[hk,hf,hm];show(if(true&&true)=true then((prog.keyLits (m+2) 233 [.int .i64 i,.int .i64 w]).map fun ls=>Lit.string (keyBytes ls))else none)=_;rw[hl];rfl
theorem EI:WideMaps.KeyLaw prog 233:=deep_law_laid (by kernel_rfl) (m:=5) (by omega) (of_decide_eq_true (by kernel_rfl)) (by kernel_rfl) (by kernel_rfl)
theorem KH:Maps.Keyed prog 233:=Maps.Keyed.of_law EI
theorem TC{i w j v}(hi:iX i)(hw:iX w)(hj:iX j)(hv:iX v)(h:kL i w=kL j v):i=j/\w=v:=by have h1:=so hi hw;have h2:=so hj hv;rw[<-h]at h2;have:=EI.inj h1 h2;grind[kA]
structure bu(W:World)(r:Nat)(H:Nat->Int->Int)(n:Nat):Prop where
 own:∃D:DataW Unit,W.ownsMap prog 233 (plainElem prog 3) r n D/\∀(i:Nat) (w:Int),iX i->iX w->Maps.has D (kL i w)=true->D.atKey (kL i w) (.lit (.int .i64 0))=.lit (.int .i64 (H i w))
theorem bu.new(w:World)  H  :bu (w.alloc (.map #[] 0)) w.heap.size H 0:=by refine⟨.map [],World.ownsMap_made w _ _ _,fun i v _ _ h=>?_⟩;simp[Maps.has]at h
theorem bu.kept{W W'}{r n}{H}{row}(h:bu W r H n)(hg:W.grownBy W' row)(bG:some r≠row):bu W' r H n:=by obtain⟨D,h1,h2⟩:=h.own;exact⟨D,h1.kept hg bG,h2⟩
theorem bu.mono{W}{r n n'}{H}(h:bu W r H n)(hn:n<=n'):bu W r H n':=by obtain⟨D,h1,h2⟩:=h.own;exact⟨D,h1.mono hn,h2⟩
theorem bu.lt{W}{r n}{H}(h:bu W r H n):r<W.heap.size:=by obtain⟨D,h1,_⟩:=h.own;exact h1.lt
theorem bu.look{W}{r n}{H}(h:bu W r H n){i:Nat}{w}(hi:iX i)(hw:iX w):
 (Instr.lookup 139 (.map (some r)) (kA i w) true).run prog W=.ok (.tuple #[.int .i64 (H i w),.bool true]) W\/∃c,(Instr.lookup 139 (.map (some r)) (kA i w) true).run prog W=.ok (.tuple #[.int .i64 c,.bool false]) W:=by
 obtain⟨D,h1,h2⟩:=h.own;obtain⟨v,ps,zi,hv⟩:=h1.look_ok KH (t:=139) (e:=3) (by kernel_rfl) (z:=.int .i64 0) (zeroValue3 W) (zd:=.lit (.int .i64 0)) (zp:=[]) (plainElem_int underlying3 (by decide)) (so hi hw);obtain⟨c,rfl,hc,Z2⟩:=plainElem_int_inv underlying3 hv;simp only[Prod.mk.injEq]at hc;cases hb:Maps.has D (kL i w)with
 |true=>grind
 |false=>grind
theorem bu.put{W}{r n}{H}(h:bu W r H n){i:Nat}{w}(hi:iX i)(hw:iX w)(hH:iX (H i w))(hn:n<1000000000000):
 ∃W',(Instr.mapUpdate 139 (.map (some r)) (kA i w) (.int .i64 (H i w))).run prog W=.ok () W'/\bu W' r H (n+1)/\W.grownBy W' (some r):=by
 obtain⟨D,h1,h2⟩:=h.own;obtain⟨W',zi,ho,hg⟩:=h1.update KH (t:=139) (e:=3) (by kernel_rfl) (by unfold maxLen;omega) (so hi hw) (plainElem_int underlying3 hH.wf);refine⟨W',zi,⟨_,ho,fun j v hj hv hb=>?_⟩,hg⟩;by_cases e:kL j v=kL i w
 ·obtain⟨e1,e2⟩:=TC hj hv hi hw e;have e1:j=i:=by omega
  subst e1;subst e2;exact Maps.atKey_put_same (h1.isMap) (KH.key (so hi hw)) _ _
 ·rw[Maps.atKey_put_other e];rw[Maps.has_put_other e]at hb;grind
def Ms(W:World)(mb:Nat)(nv wv:Value)(r:Nat):Prop:=W.heap[mb]?=some (.cells #[nv,wv,.map (some r)] 141 (0,0))
theorem ac{W W'}{row}(h:Bt W W'):W.grownBy W' row:=⟨h.os,h.tape,h.output,h.size,fun b hb _=>h.block b hb⟩
theorem bu.map{W}{r n}{H}(h:bu W r H n):∃es rL,W.heap[r]?=some (.map es rL):=by obtain⟨D,⟨es,rL,hb,_⟩,_⟩:=h.own;grind
theorem bu.ne{W}{r n b}{H}(h:bu W r H n){c}{t}{fz}(hb:W.heap[b]?=some (.cells c t fz)):b≠r:=by intro e;subst e;obtain⟨es,rL,hm⟩:=h.map;grind
theorem Gh(mb r g i n k N al:Nat)(w:Int)(H:Nat->Int->Int)(wv:Value)(kd a0 a1 a2 a3 a4 a5 a6 a7 a8 a9 b0 b1 up:Int)(tx:ByteArray)(kv:Value)(W:World)
 (hM:Ms W mb (Sq g N al) wv r) (hm:Hid (bu W r H n)) (hi:i<N) (hN:N<=1000000) (Xv:iX i) (X8:iX w) (hnk:n+k+1<1000000000000)
 (hg:g<W.heap.size) (fQ:g≠r) (hC:Hid (∀t x,(#[Iq kd,Iq a0,Iq a1,Iq a2,Iq a3,Iq a4,Iq a5,Iq a6,Iq a7,Iq a8,Iq a9,Iq b0,Iq b1,.string tx,kv,Iq up]:Array Value)[t]?=some x->W.cell? (az g (i*16+t))=some x))
 (hWk:Hid (∀U,Bt W U->bu U r H n->Cw 135 #[Pq mb,.agg #[Iq kd,Iq a0,Iq a1,Iq a2,Iq a3,Iq a4,Iq a5,Iq a6,Iq a7,Iq a8,Iq a9,Iq b0,Iq b1,.string tx,kv,Iq up],Iq w] U fun e U'=>∃x,e=Rw (Iq x)/\bT x=H i w/\Hid (U.grownBy U' (some r))/\Hid (bu U' r H (n+k)))):
 Cw 101 #[Pq mb,Iq (i:Int),Iq w] W fun e W'=>e=Rw (Iq (H i w))/\Hid (W.grownBy W' (some r))/\Hid (bu W' r H (n+k+1)):=by
 have oV:prog.follows .mixedOrders=true:=by kernel_rfl
 obtain⟨W1,cE⟩:=aj (W.alloc (.cells #[Iq (i:Int),Iq w] 233));obtain⟨A,hA⟩:=aj W.heap.size;have hb1:Bt W W1:=by rw[<-cE];exact((Gr.refl W).alloc _).below
 have hA1:W1.heap[A]?=some (.cells #[Iq (i:Int),Iq w] 233 (0,0)):=by rw[<-cE,<-hA];show(W.heap.push _)[W.heap.size]?=_;exact Mt
 have Ol:=(aS.1 hM).1;have hM1:=(hb1.block mb Ol).trans hM;have HM1:=qH<|hm.kept (ac (row:=none) hb1) (by simp);have BL:=qH<|HM1.kept (W':=W1.drew) (row:=none) (ac (vz (ag _ W1))) (by simp);have k0:W1.cell? (az A 0)=some (Iq (i:Int)):=by rw[Lib.cell_of_heap hA1];rfl
 have k1:W1.cell? (az A 1)=some (Iq w):=by rw[Lib.cell_of_heap hA1];rfl
 have m0:W1.cell? (az mb 0)=some (Sq g N al):=by rw[Lib.cell_of_heap hM1];rfl
 have m2:W1.cell? (az mb 2)=some (.map (some r)):=by rw[Lib.cell_of_heap hM1];rfl
 have lp:=qH<|fun t x ht=>(hb1.cell (p:=(az g _)) hg).trans (hC t x ht);have HB1:=qH<|hb1;have hiI:(i:Int)<(N:Int):=by omega
 rcases BL.look Xv X8 with U9|⟨c,U9⟩;·unfold kA at U9;clear hM1 hA1 hb1 hM;go_enter func101,ntmps101;go_wp2;go_region;all_goals go_wp2;go_ret;exact⟨rfl,ac (vz HB1),BL.mono (by omega)⟩
 ·unfold kA at U9;have q0:W1.cell? (az g (i*16))=some (Iq kd):=lp 0 _ rfl;have q1:W1.cell? (az g (i*16+1))=some (Iq a0):=lp 1 _ rfl;have q2:W1.cell? (az g (i*16+2))=some (Iq a1):=lp 2 _ rfl;have q3:W1.cell? (az g (i*16+3))=some (Iq a2):=lp 3 _ rfl;have q4:W1.cell? (az g (i*16+4))=some (Iq a3):=lp 4 _ rfl;have q5:W1.cell? (az g (i*16+5))=some (Iq a4):=lp 5 _ rfl;have q6:W1.cell? (az g (i*16+6))=some (Iq a5):=lp 6 _ rfl;have q7:W1.cell? (az g (i*16+7))=some (Iq a6):=lp 7 _ rfl;have q8:W1.cell? (az g (i*16+8))=some (Iq a7):=lp 8 _ rfl;have q9:W1.cell? (az g (i*16+9))=some (Iq a8):=lp 9 _ rfl;have q10:W1.cell? (az g (i*16+10))=some (Iq a9):=lp 10 _ rfl;have q11:W1.cell? (az g (i*16+11))=some (Iq b0):=lp 11 _ rfl;have q12:W1.cell? (az g (i*16+12))=some (Iq b1):=lp 12 _ rfl;have q13:W1.cell? (az g (i*16+13))=some (.string tx):=lp 13 _ rfl;have q14:W1.cell? (az g (i*16+14))=some (kv):=lp 14 _ rfl;have q15:W1.cell? (az g (i*16+15))=some (Iq up):=lp 15 _ rfl;have WC:=qH<|hWk W1.drew (vz HB1) BL;have hmr:=HM1.ne hM1;have WU:=HM1.ne hA1;have IE:=qH<|hM1;have Fp:=qH<|hA1;have Gt:=(aS.1 hM1).1;have Cl:=(aS.1 hA1).1;clear hM1 hA1 hb1 hM hWk;go_enter func101,ntmps101;go_wp2;go_region;all_goals
   go_wp2_with fail;refine WC.mono ?_;rintro e U ⟨x,rfl,hx,_C,HMU⟩;have BB:W1.drew.heap.size=W1.heap.size:=rfl;have hM4:=(_C.block mb Gt (fun e=>hmr (by simpa using e))).trans IE;have hA4:=(_C.block A Cl (fun e=>WU (by simpa using e))).trans Fp;have v0:U.cell? (az A 0)=some (Iq (i:Int)):=by rw[Lib.cell_of_heap hA4];rfl
   have v1:U.cell? (az A 1)=some (Iq w):=by rw[Lib.cell_of_heap hA4];rfl
   have v2:U.cell? (az mb 2)=some (.map (some r)):=by rw[Lib.cell_of_heap hM4];rfl
   have Qm:=qH<|HMU.kept (W':=U.drew) (row:=none) (ac (vz (ag _ U))) (by simp);have zba:iX (H i w):=by rw[<-hx];have:=cJ x;unfold iX;omega
   obtain⟨U2,q_,hme,hgr2⟩:=Qm.put Xv X8 zba (by omega);unfold kA at q_;have _W:=qH<|hme;have RG:Hid (W.grownBy U2 (some r)):=by have g1:W.grownBy W1.drew (some r):=ac (vz HB1);have g2:=g1.trans _C;have g3:=g2.trans (ac (vz (ag _ U)));exact g3.trans hgr2
   have LN:=qH<|fun u=>by have:=length_any x u;rw[hx]at this;exact this
   clear hM4 hA4 hme hgr2 hx;go_wp2_with(go_at_call 55;refine(LN _).mono ?_;rintro e u ⟨rfl,hu⟩;obtain rfl:=hu.symm);go_region;all_goals go_wp2;go_ret;simp_all
def ik(kd a0 a1 a2 a3 a4 a5 a6 a7 a8 a9 b0 b1:Int)(tx:ByteArray)(kv:Value)(up:Int):Value:=.agg #[Iq kd,Iq a0,Iq a1,Iq a2,Iq a3,Iq a4,Iq a5,Iq a6,Iq a7,Iq a8,Iq a9,Iq b0,Iq b1,.string tx,kv,Iq up]
def iy(kd a5 a6:Int):Int:=if kd=3 then a6+a5 else 0
def fW(a4:Int)(m:Nat):Int:=a4*max 0 ((m:Int)-1)
def nK(n m:Int):Int:=if m<0 then n else min n m
theorem Ci{kd a5 a6}(h5:0<=a5/\a5<=1000000)(h6:0<=a6/\a6<=1000000):0<=iy kd a5 a6/\iy kd a5 a6<=2000000:=by grind[iy]
theorem lq(kd a0 a1 a2 a3 a4 a5 a6 a7 a8 a9 b0 b1 up:Int)(tx:ByteArray)(p:Option Addr)(m c:Nat)(h5:0<=a5/\a5<=1000000)(h6:0<=a6/\a6<=1000000)(w:World):
 Cw 100 #[ik kd a0 a1 a2 a3 a4 a5 a6 a7 a8 a9 b0 b1 tx (.slice p m c) up] w fun e w'=>e=Rw (Iq (iy kd a5 a6))/\Hid (Bt w w'):=by
 unfold ik;by_cases h3:kd=3
 ·subst h3;have hf:iy 3 a5 a6=a6+a5:=by unfold iy;rw[if_pos rfl]
  rw[hf];go_enter func100,ntmps100;go_wp2;go_ret;exact⟨by go_num,((Gr.refl w).alloc _).below⟩
 ·have hf:iy kd a5 a6=0:=by unfold iy;rw[if_neg h3]
  have bG:(kd !=3)=true:=by simpa using h3
  rw[hf];go_enter func100,ntmps100;go_wp2;go_ret;exact⟨rfl,((Gr.refl w).alloc _).below⟩
theorem yG(kd a0 a1 a2 a3 a4 a5 a6 a7 a8 a9 b0 b1 up:Int)(tx:ByteArray)(p:Option Addr)(m c:Nat)(h4:0<=a4/\a4<=1000000)(hm:m<=1000000)(w:World):
    Cw 99 #[ik kd a0 a1 a2 a3 a4 a5 a6 a7 a8 a9 b0 b1 tx (.slice p m c) up] w fun e w'=>e=Rw (Iq (fW a4 m))/\Hid (Bt w w'):=by
  unfold ik;obtain⟨q,hq⟩:=aj (max 0 ((m:Int)-1));have tR:0<=q/\q<=1000000:=by omega
  have zcv:0<=a4*q/\a4*q<=1000000*1000000:=⟨gQ h4.1 tR.1,lm h4.2 tR.2 tR.1 (by omega)⟩;have eu:IntKind.i64.wrap (a4*q)=a4*q:=IntWalk.i64_in _ (by omega);have hg:fW a4 m=a4*q:=by unfold fW;rw[hq]
  rw[hg];go_enter func99,ntmps99;go_wp2;all_goals
    go_ret;refine⟨?_,((Gr.refl w).alloc _).below⟩;refine congrArg (fun n:Int=>Ending.returned (Iq n)) (?_:_=a4*q);first
      | (have e:q=(m:Int)-1:=by omega
         rw[e]at zcv⊢;exact IntWalk.wrap64_in _ (by omega))
      | (have e:q=0:=by omega
         rw[e,Fi];exact IntWalk.wrap64_in _ (by omega))
theorem atMost_any(n m:Int)(w:World):Cw 179 #[Iq n,Iq m] w fun e w'=>e=Rw (Iq (nK n m))/\w'=w:=by
 by_cases h:m<0
 ·have hf:nK n m=n:=by unfold nK;rw[if_pos h]
  rw[hf];go_enter func179,ntmps179;go_wp2;go_ret;simp_all
 ·have hf:nK n m=min n m:=by unfold nK;rw[if_neg h]
  rw[hf];go_enter func179,ntmps179;go_wp2;all_goals go_ret;refine⟨?_,rfl⟩;refine congrArg (fun n:Int=>Ending.returned (Iq n)) (?_:_=min n m);omega
theorem C7(n:Int)(w:World):Cw 34 #[Iq n] w fun e w'=>e=Rw (.bool (decide (1<=n/\n<=400)))/\w'=w:=by
 by_cases h1:1<=n
 ·by_cases h2:n<=400;·rw[decide_eq_true (show 1<=n/\n<=400 from⟨h1,h2⟩)];go_enter func34,ntmps34;go_wp2;go_ret;simp_all
  ·rw[decide_eq_false (show¬(1<=n/\n<=400)from fun e=>h2 e.2)];go_enter func34,ntmps34;go_wp2;go_ret;simp_all
 ·rw[decide_eq_false (show¬(1<=n/\n<=400)from fun e=>h1 e.1)];go_enter func34,ntmps34;go_wp2;go_ret;simp_all
def hS(h:Nat->Int):Nat->Int
 |0=>0
 |k+1=>hS h k+h k
def hG(h:Nat->Int):Nat->Int
 |0=>0
 |k+1=>max (hG h k) (h k)
def cS(c:Nat->Nat):Nat->Nat
 |0=>0
 |k+1=>cS c k+c k
theorem yR{h}{m}(hh:∀j,j<m->0<=h j/\h j<=100000):∀k,k<=m->0<=hS h k/\hS h k<=100000*(k:Int)
 |0,_=>by simp[hS]
 |k+1,hk=>by have h1:=yR hh k (by omega);grind[hS]
theorem yQ{h}{m}(hh:∀j,j<m->0<=h j/\h j<=100000):∀k,k<=m->0<=hG h k/\hG h k<=100000
 |0,_=>by simp[hG]
 |k+1,hk=>by have h1:=yQ hh k (by omega);grind[hG]
def mO(kd a4 a5 a6:Int)(h:Nat->Int)(m:Nat):Int:=if kd=1 then hS h m+fW a4 m else hG h m+2*iy kd a5 a6
def gm(W:World)(r:Nat)(p:Option Addr)(m:Nat)(v:Nat->Int):Prop:=m=0\/∃b o,p=some (az b o)/\b<W.heap.size/\b≠r/\∀j,j<m->W.cell? (az b (o+j))=some (Iq (v j))
theorem gm.grown{W W'}{r m}{p}{v}(h:gm W r p m v)(hg:W.grownBy W' (some r)):gm W' r p m v:=by
 rcases h with h|⟨b,o,e,h1,h2,h3⟩;·exact .inl h
 ·exact .inr ⟨b,o,e,bn h1 hg.size,h2,fun j hj=>(bU (hg.block b h1 (fun q=>h2 (by grind)))).trans (h3 j hj)⟩
def QA(U U':World)(r m:Nat)(kd a4 a5 a6:Int)(ks:Nat->Nat)(H:Nat->Int->Int)(FD:(Nat->Int)->Prop)(n:Nat)(e:Ending):Prop:=∃V,FD V/\e=Rw (Iq (mO kd a4 a5 a6 (fun j=>H (ks j) (V j)) m))/\U.grownBy U' (some r)/\bu U' r H n
def kq(U U':World)(r m:Nat)(H:Nat->Int->Int)(FD:(Nat->Int)->Prop)(n:Nat)(e:Ending):Prop:=∃q cq V,FD V/\e=Rw (.slice q m cq)/\gm U' r q m V/\U.grownBy U' (some r)/\bu U' r H n
theorem P6(mb r n m:Nat)(w:Int)(H:Nat->Int->Int)(FD:(Nat->Int)->Prop)(ks:Nat->Nat)(kc:Nat->Nat)(kd a0 a1 a2 a3 a4 a5 a6 a7 a8 a9 b0 b1 up:Int)(tx:ByteArray)(p:Option Addr)(c:Nat)(U:World)
 (XC:kd≠5) (hm:m<=1000) (h4:0<=a4/\a4<=1000000) (h5:0<=a5/\a5<=1000000) (h6:0<=a6/\a6<=1000000) (Xu:Hid (∀j v,j<m->0<=H (ks j) v/\H (ks j) v<=100000)) (oE:Hid (∀j,j<m->ks j<=1000000)) (hr:r<U.heap.size)
 (hM:Hid (bu U r H n)) (hK:Hid (gm U r p m (fun j=>(ks j:Int))))
 (KW:Hid (∀u,Bt U u->bu u r H n->Cw 173 #[Pq mb,ik kd a0 a1 a2 a3 a4 a5 a6 a7 a8 a9 b0 b1 tx (.slice p m c) up,Iq w] u fun e u'=>kq u u' r m H FD n e))
 (HKV:Hid (∀V,FD V->∀j u nn,j<m->U.grownBy u (some r)->bu u r H nn->nn<=n+cS kc j->Cw 101 #[Pq mb,Iq (ks j:Int),Iq (V j)] u fun e u'=>e=Rw (Iq (H (ks j) (V j)))/\Hid (u.grownBy u' (some r))/\Hid (bu u' r H (n+cS kc (j+1))))):
 Cw 135 #[Pq mb,ik kd a0 a1 a2 a3 a4 a5 a6 a7 a8 a9 b0 b1 tx (.slice p m c) up,Iq w] U fun e U'=>QA U U' r m kd a4 a5 a6 ks H FD (n+cS kc m) e:=by
 have e5:(kd==5)=false:=by simpa using XC
 obtain⟨ob,xP⟩:∃z:Obj,Obj.cells #[Iq kd,Iq a0,Iq a1,Iq a2,Iq a3,Iq a4,Iq a5,Iq a6,Iq a7,Iq a8,Iq a9,Iq b0,Iq b1,.string tx,.slice p m c,Iq up] 100=z:=⟨_,rfl⟩;obtain⟨U1,tM⟩:=aj (U.alloc (.cells #[Iq kd,Iq a0,Iq a1,Iq a2,Iq a3,Iq a4,Iq a5,Iq a6,Iq a7,Iq a8,Iq a9,Iq b0,Iq b1,.string tx,.slice p m c,Iq up] 100));obtain⟨A,hA⟩:=aj U.heap.size;have hb1:Bt U U1:=by rw[<-tM];exact((Gr.refl U).alloc _).below
 have bY:U1.heap[A]?=some (.cells #[Iq kd,Iq a0,Iq a1,Iq a2,Iq a3,Iq a4,Iq a5,Iq a6,Iq a7,Iq a8,Iq a9,Iq b0,Iq b1,.string tx,.slice p m c,Iq up] 100 (0,0)):=by rw[<-tM,<-hA];show(U.heap.push _)[U.heap.size]?=_;exact Mt
 have cH:Hid (∀u,U1.grownBy u (some r)->∀t x,(#[Iq kd,Iq a0,Iq a1,Iq a2,Iq a3,Iq a4,Iq a5,Iq a6,Iq a7,Iq a8,Iq a9,Iq b0,Iq b1,.string tx,.slice p m c,Iq up]:Array Value)[t]?=some x->u.cell? (az A t)=some x):=fun u hu t x ht=>by have Cl:=(aS.1 bY).1;have:=hu.block A Cl (fun e=>by grind);rw[Lib.cell_of_heap (this.trans bY)];exact ht
 have HG1:Hid (U.grownBy U1 (some r)):=ac hb1;have HB1:=qH<|hb1;have z0:=cH U1 (ac (ag _ U1)) 0 _ rfl;have z1:=cH U1 (ac (ag _ U1)) 1 _ rfl;have z2:=cH U1 (ac (ag _ U1)) 2 _ rfl;have z3:=cH U1 (ac (ag _ U1)) 3 _ rfl;have z4:=cH U1 (ac (ag _ U1)) 4 _ rfl;have z5:=cH U1 (ac (ag _ U1)) 5 _ rfl;have z6:=cH U1 (ac (ag _ U1)) 6 _ rfl;have z7:=cH U1 (ac (ag _ U1)) 7 _ rfl;have z8:=cH U1 (ac (ag _ U1)) 8 _ rfl;have z9:=cH U1 (ac (ag _ U1)) 9 _ rfl;have P7:=cH U1 (ac (ag _ U1)) 10 _ rfl;have P8:=cH U1 (ac (ag _ U1)) 11 _ rfl;have P9:=cH U1 (ac (ag _ U1)) 12 _ rfl;have M_:=cH U1 (ac (ag _ U1)) 13 _ rfl;have P_:=cH U1 (ac (ag _ U1)) 14 _ rfl;have Qa:=cH U1 (ac (ag _ U1)) 15 _ rfl;clear hb1 bY xP;unfold ik at KW⊢;go_enter func135,ntmps135;go_wp2_with fail;refine(KW _ HB1 (hM.kept (ac (row:=none) HB1) (by simp))).mono ?_;rintro e U2 ⟨q,cq,V,hvk,rfl,hv,hg12,hm2⟩;have HVK:=qH<|hvk;have HV:=qH<|hv;have HG12:=qH<|hg12;have fU:=qH<|HG1.trans HG12;have BL:=qH<|hm2;have km:=qH<|hK.grown fU;obtain⟨h,QS⟩:∃h:Nat->Int,(fun j=>H (ks j) (V j))=h:=⟨_,rfl⟩;have hh:Hid (∀j,j<m->0<=h j/\h j<=100000):=by rw[<-QS];exact fun j hj=>Xu j _ hj
 have HK:Hid (∀j u nn,j<m->U.grownBy u (some r)->bu u r H nn->nn<=n+cS kc j->Cw 101 #[Pq mb,Iq (ks j:Int),Iq (V j)] u fun e u'=>e=Rw (Iq (h j))/\Hid (u.grownBy u' (some r))/\Hid (bu u' r H (n+cS kc (j+1)))):=by rw[<-QS];exact HKV V hvk
 have BN:Hid (∀e u,e=Rw (Iq (mO kd a4 a5 a6 h m))->U.grownBy u (some r)->bu u r H (n+cS kc m)->QA U u r m kd a4 a5 a6 ks H FD (n+cS kc m) e):=fun e u h1 h2 h3=>⟨V,HVK,by grind,h2,h3⟩;have zdw:=cH U2 HG12 14 _ rfl;clear z0 z1 z2 z3 z4 z5 z6 z7 z8 z9 P7 P8 P9 M_ P_ Qa KW QS hvk hv hg12 hm2 HKV Xu;generalize kJ:Value.agg #[Iq kd,Iq a0,Iq a1,Iq a2,Iq a3,Iq a4,Iq a5,Iq a6,Iq a7,Iq a8,Iq a9,Iq b0,Iq b1,.string tx,.slice p m c,Iq up]=nv;go_wp2_with fail;go_loopw[7,8,26] (fun sv gv kv wr=>∃k:Nat,k<=m/\kv=Iq (k:Int)/\sv=Iq (hS h k)/\gv=Iq (hG h k)/\Hid (U2.grownBy wr (some r))/\Hid (bu wr r H (n+cS kc k))) (fun _ _ kv _=>m-(intOf kv).toNat);case atStart=>exact⟨0,bc _,rfl,rfl,rfl,ac (ag _ _),BL⟩
 case round=>
  obtain⟨k,hk,rfl,rfl,rfl,H7,RR⟩:=hrel;by_cases hlt:k<m
  ·have aK:(k:Int)<(m:Int):=by omega
   have hbs:=yR hh k hk;have hbg:=yQ hh k hk;have hbh:=hh k hlt;have XD:=oE k hlt;obtain⟨kb,ko,rfl,_,_,J4⟩:=(km.grown H7).resolve_left (by omega);obtain⟨vb,vo,rfl,_,_,OC⟩:=(HV.grown H7).resolve_left (by omega);have cv:=OC k hlt;have HC:=qH<|HK k wr _ hlt (fU.trans H7) RR (ai _);obtain⟨S,qA⟩:=aj (hS h k);obtain⟨G,Oj⟩:=aj (hG h k);obtain⟨x,hx⟩:=aj (h k);obtain⟨vv,Ra⟩:=aj (V k);have ck:=J4 k hlt;have H':Hid (hS h (k+1)=S+x):=by show _=_;rw[<-qA,<-hx];rfl
   have HG1:Hid (hG h (k+1)=max G x):=by show _=_;rw[<-Oj,<-hx];rfl
   rw[qA]at hbs;rw[Oj]at hbg;rw[hx]at hbh HC;rw[Ra]at HC;rw[Ra]at cv;rw[qA,Oj];have HBS:=qH<|hbs;have _o:=qH<|hbg;have HBH:=qH<|hbh;clear qA Oj hx Ra J4 OC hbs hbg hbh XD tM hA zdw h4 h5 h6 XC hr;go_wp2_with(go_at_call 101;refine HC.mono ?_;rintro e wz ⟨rfl,HGz,HMz⟩;have hbs:=HBS.out;have hbg:=_o.out;have hbh:=HBH.out);all_goals
    go_roundw;case rel=>exact⟨k+1,hlt,by go_num,by rw[H'.out],by rw[HG1.out];grind,H7.trans HGz,HMz⟩
    case measure=>simp[intOf];omega
  ·have aK:¬(k:Int)<(m:Int):=by omega
   obtain rfl:k=m:=by omega
   have Bn:=qH<|HG12.trans H7;have y0:=cH wr Bn 0 _ rfl;have y1:=cH wr Bn 1 _ rfl;have y2:=cH wr Bn 2 _ rfl;have y3:=cH wr Bn 3 _ rfl;have y4:=cH wr Bn 4 _ rfl;have y5:=cH wr Bn 5 _ rfl;have y6:=cH wr Bn 6 _ rfl;have y7:=cH wr Bn 7 _ rfl;have y8:=cH wr Bn 8 _ rfl;have y9:=cH wr Bn 9 _ rfl;have y10:=cH wr Bn 10 _ rfl;have y11:=cH wr Bn 11 _ rfl;have y12:=cH wr Bn 12 _ rfl;have y13:=cH wr Bn 13 _ rfl;have y14:=cH wr Bn 14 _ rfl;have y15:=cH wr Bn 15 _ rfl;have hbs:=yR hh k hk;have hbg:=yQ hh k hk;have GA:=qH<|fun u=>yG kd a0 a1 a2 a3 a4 a5 a6 a7 a8 a9 b0 b1 up tx p k c h4 (by omega) u;have FA:=qH<|fun u=>lq kd a0 a1 a2 a3 a4 a5 a6 a7 a8 a9 b0 b1 up tx p k c h5 h6 u;have lz:0<=fW a4 k/\fW a4 k<=1000000000000:=by
    unfold fW;have tR:0<=max 0 ((k:Int)-1)/\max 0 ((k:Int)-1)<=1000000:=by omega
    exact⟨gQ h4.1 tR.1,lm h4.2 tR.2 tR.1 (by omega)⟩
   have oS:=Ci (kd:=kd) h5 h6;unfold ik at GA FA;have RG:Hid (∀u,Bt wr u->U.grownBy u (some r)):=fun u hu=>(fU.trans H7).trans (ac hu);have _W:Hid (∀u,Bt wr u->bu u r H (n+cS kc k)):=fun u hu=>RR.kept (ac (row:=none) hu) (by simp);clear tM hA hr hh oE hM hK HK HV km cH H7 RR fU BL HVK;rw[kJ]at GA FA;by_cases h1:kd=1
   ·subst h1;have hraw:mO 1 a4 a5 a6 h k=hS h k+fW a4 k:=by unfold mO;rw[if_pos rfl]
    obtain⟨S,qA⟩:=aj (hS h k);obtain⟨gg,mw⟩:=aj (fW a4 k);rw[qA,mw]at hraw;have qr:=qH<|hraw;rw[qA]at hbs⊢;rw[mw]at lz GA;clear qA mw hraw;go_wp2_with(go_at_call 99;refine(GA _).mono ?_;rintro e wz ⟨rfl,Nf⟩);go_ret;exact BN _ _ (by rw[qr.out];rfl) (RG _ Nf) (_W _ Nf)
   ·have hraw:mO kd a4 a5 a6 h k=hG h k+2*iy kd a5 a6:=by unfold mO;rw[if_neg h1]
    have e1:(kd==1)=false:=by simpa using h1
    obtain⟨S,qA⟩:=aj (hG h k);obtain⟨gg,mw⟩:=aj (iy kd a5 a6);rw[qA,mw]at hraw;have qr:=qH<|hraw;rw[qA]at hbg⊢;rw[mw]at oS FA;clear qA mw hraw;go_wp2_with(go_at_call 100;refine(FA _).mono ?_;rintro e wz ⟨rfl,Nf⟩);go_ret;exact BN _ _ (by rw[qr.out];rfl) (RG _ Nf) (_W _ Nf)
