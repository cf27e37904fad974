import Derived.Test.YtadhgppeafpdgaaGreatDoorQ02
import Derived.Test.YtadhgppeafpdgaaGreatDoorQ08
import Derived.DeepKeys4
set_option linter.all false
set_option maxRecDepth 100000
set_option maxHeartbeats 16000000
namespace Go.Proofs.YtadhgppeafpdgaaGreatDoor
open Go.RowKit Go.Sort Go.Proofs.Tryz
def iI(n:Int):Prop:=-9223372036854775808<=n/\n<=9223372036854775807
theorem iI.wf{n}(h:iI n):(Lit.int .i64 n).wf=true:=by
 unfold iI at h;have e1:IntKind.i64.min=-9223372036854775808:=by decide
 have e2:IntKind.i64.max=9223372036854775807:=by decide
 simp[Lit.wf,e1,e2];omega
def kA(i w:Int):Value:=.agg #[.int .i64 i,.int .i64 w]
def kL(i w:Int):Lit:=.string (keyBytes [.int .i64 i,.int .i64 w])
theorem uK{i w:Int}(hi:iI i)(hw:iI w):keyOf prog 296 (kA i w)=some (kL i w):=by
 have h1:=hi.wf;have h2:=hw.wf;have hk:prog.keyType 296=true:=by kernel_rfl
 have hf:(kA i w).formed prog 296=true:=by unfold kA Value.formed;rw[underlying296];show(2==prog.cellsOf 296)=true;kernel_rfl
 obtain⟨m,hm⟩:∃m,prog.types.size+1=m+2:=⟨prog.types.size-1,by kernel_rfl⟩;have hc:prog.cellsOf 296=2:=by kernel_rfl
 have hc3:prog.cellsOf 3=1:=by kernel_rfl
 have hl:prog.keyLits (m+2) 296 [.int .i64 i,.int .i64 w]=some [.int .i64 i,.int .i64 w]:=by simp[Program.keyLits,underlying296,underlying3,hc,hc3,h1,h2]
 unfold keyOf;rw[underlying296];dsimp only;rw[hk,hf,hm];show(if(true&&true)=true then((prog.keyLits (m+2) 296 [.int .i64 i,.int .i64 w]).map fun ls=>Lit.string (keyBytes ls))else none)=_;rw[hl];rfl
theorem H_:WideMaps.KeyLaw prog 296:=deep_law_laid (by kernel_rfl) (m:=5) (by omega) (of_decide_eq_true (by kernel_rfl)) (by kernel_rfl) (by kernel_rfl)
theorem Ph:Maps.Keyed prog 296:=Maps.Keyed.of_law H_
theorem YV{i w j v}(hi:iI i)(hw:iI w)(hj:iI j)(hv:iI v)(h:kL i w=kL j v):i=j/\w=v:=by have h1:=uK hi hw;have h2:=uK hj hv;rw[<-h]at h2;have:=H_.inj h1 h2;grind[kA]
structure aW(W:World)(r:Nat)(H:Nat->Int->Int)(n:Nat):Prop where
 own:∃D:DataW Unit,W.ownsMap prog 296 (plainElem prog 3) r n D/\∀(i:Nat) (w:Int),iI i->iI w->Maps.has D (kL i w)=true->D.atKey (kL i w) (.lit (.int .i64 0))=.lit (.int .i64 (H i w))
theorem aW.new(w:World)  H  :aW (w.alloc (.map #[] 0)) w.heap.size H 0:=by refine⟨.map [],World.ownsMap_made w _ _ _,fun i v _ _ h=>?_⟩;simp[Maps.has]at h
theorem aW.kept{W W'}{r n}{H}{row}(h:aW W r H n)(hg:W.grownBy W' row)(bj:some r≠row):aW W' r H n:=by obtain⟨D,h1,h2⟩:=h.own;exact⟨D,h1.kept hg bj,h2⟩
theorem aW.mono{W}{r n n'}{H}(h:aW W r H n)(hn:n<=n'):aW W r H n':=by obtain⟨D,h1,h2⟩:=h.own;exact⟨D,h1.mono hn,h2⟩
theorem aW.lt{W}{r n}{H}(h:aW W r H n):r<W.heap.size:=by obtain⟨D,h1,_⟩:=h.own;exact h1.lt
theorem aW.look{W}{r n}{H}(h:aW W r H n){i:Nat}{w}(hi:iI i)(hw:iI w):
 (Instr.lookup 206 (.map (some r)) (kA i w) true).run prog W=.ok (.tuple #[.int .i64 (H i w),.bool true]) W\/∃c,(Instr.lookup 206 (.map (some r)) (kA i w) true).run prog W=.ok (.tuple #[.int .i64 c,.bool false]) W:=by
 obtain⟨D,h1,h2⟩:=h.own;obtain⟨v,ps,wG,hv⟩:=h1.look_ok Ph (t:=206) (e:=3) (by kernel_rfl) (z:=.int .i64 0) (zeroValue3 W) (zd:=.lit (.int .i64 0)) (zp:=[]) (plainElem_int underlying3 (by decide)) (uK hi hw);obtain⟨c,rfl,hc,_B⟩:=plainElem_int_inv underlying3 hv;simp only[Prod.mk.injEq]at hc;cases hb:Maps.has D (kL i w)with
 |true=>grind
 |false=>grind
theorem aW.put{W}{r n}{H}(h:aW W r H n){i:Nat}{w}(hi:iI i)(hw:iI w)(hH:iI (H i w))(hn:n<1000000000000):
 ∃W',(Instr.mapUpdate 206 (.map (some r)) (kA i w) (.int .i64 (H i w))).run prog W=.ok () W'/\aW W' r H (n+1)/\W.grownBy W' (some r):=by
 obtain⟨D,h1,h2⟩:=h.own;obtain⟨W',wG,ho,hg⟩:=h1.update Ph (t:=206) (e:=3) (by kernel_rfl) (by unfold maxLen;omega) (uK hi hw) (plainElem_int underlying3 hH.wf);refine⟨W',wG,⟨_,ho,fun j v hj hv hb=>?_⟩,hg⟩;by_cases e:kL j v=kL i w
 ·obtain⟨e1,e2⟩:=YV hj hv hi hw e;have e1:j=i:=by omega
  subst e1;subst e2;exact Maps.atKey_put_same (h1.isMap) (Ph.key (uK hi hw)) _ _
 ·rw[Maps.atKey_put_other e];rw[Maps.has_put_other e]at hb;grind
def Ms(W:World)(mb:Nat)(nv wv:Value)(r:Nat):Prop:=W.heap[mb]?=some (.cells #[nv,wv,.map (some r)] 208 (0,0))
theorem aa{W W'}{row}(h:Bt W W'):W.grownBy W' row:=⟨h.os,h.tape,h.output,h.size,fun b hb _=>h.block b hb⟩
theorem aW.map{W}{r n}{H}(h:aW W r H n):∃es tS,W.heap[r]?=some (.map es tS):=by obtain⟨D,⟨es,tS,hb,_⟩,_⟩:=h.own;grind
theorem aW.ne{W}{r n b}{H}(h:aW W r H n){c}{t}{fz}(hb:W.heap[b]?=some (.cells c t fz)):b≠r:=by intro e;subst e;obtain⟨es,tS,hm⟩:=h.map;grind
theorem Kw(mb r g i n k N cap:Nat)(w:Int)(H:Nat->Int->Int)(wv:Value)(kd a0 a1 a2 a3 a4 a5 a6 a7 a8 a9 b0 b1 up:Int)(tx:ByteArray)(kv:Value)(W:World)
 (hM:Ms W mb (Sq g N cap) wv r) (hm:Hid (aW W r H n)) (hi:i<N) (hN:N<=1000000) (zbC:iI i) (zcl:iI w) (hnk:n+k+1<1000000000000)
 (hg:g<W.heap.size) (fd:g≠r) (hC:Hid (∀t x,(#[Iq kd,Iq a0,Iq a1,Iq a2,Iq a3,Iq a4,Iq a5,Iq a6,Iq a7,Iq a8,Iq a9,Iq b0,Iq b1,.string tx,kv,Iq up]:Array Value)[t]?=some x->W.cell? (aq g (i*16+t))=some x))
 (hWk:Hid (∀U,Bt W U->aW U r H n->Cw 197 #[Pq mb,.agg #[Iq kd,Iq a0,Iq a1,Iq a2,Iq a3,Iq a4,Iq a5,Iq a6,Iq a7,Iq a8,Iq a9,Iq b0,Iq b1,.string tx,kv,Iq up],Iq w] U fun e U'=>∃x,e=Rw (Iq x)/\bD x=H i w/\Hid (U.grownBy U' (some r))/\Hid (aW U' r H (n+k)))):
 Cw 158 #[Pq mb,Iq (i:Int),Iq w] W fun e W'=>e=Rw (Iq (H i w))/\Hid (W.grownBy W' (some r))/\Hid (aW W' r H (n+k+1)):=by
 have kU:prog.follows .mixedOrders=true:=by kernel_rfl
 obtain⟨W1,bZ⟩:=af (W.alloc (.cells #[Iq (i:Int),Iq w] 296));obtain⟨A,hA⟩:=af W.heap.size;have hb1:Bt W W1:=by rw[<-bZ];exact((Gr.refl W).alloc _).below
 have hA1:W1.heap[A]?=some (.cells #[Iq (i:Int),Iq w] 296 (0,0)):=by rw[<-bZ,<-hA];show(W.heap.push _)[W.heap.size]?=_;exact I7
 have vQ:=(az.1 hM).1;have hM1:=(hb1.block mb vQ).trans hM;have HM1:=qH<|hm.kept (aa (row:=none) hb1) (by simp);have GB:=qH<|HM1.kept (W':=W1.drew) (row:=none) (aa (l_ (ag _ W1))) (by simp);have k0:W1.cell? (aq A 0)=some (Iq (i:Int)):=by rw[Lib.cell_of_heap hA1];rfl
 have k1:W1.cell? (aq A 1)=some (Iq w):=by rw[Lib.cell_of_heap hA1];rfl
 have m0:W1.cell? (aq mb 0)=some (Sq g N cap):=by rw[Lib.cell_of_heap hM1];rfl
 have m2:W1.cell? (aq mb 2)=some (.map (some r)):=by rw[Lib.cell_of_heap hM1];rfl
 have ii:=qH<|fun t x ht=>(hb1.cell (p:=(aq g _)) hg).trans (hC t x ht);have HB1:=qH<|hb1;have hiI:(i:Int)<(N:Int):=by omega
 rcases GB.look zbC zcl with KD|⟨c,KD⟩;·unfold kA at KD;clear hM1 hA1 hb1 hM;go_enter func158,ntmps158;go_wp2;go_region;all_goals go_wp2;go_ret;exact⟨rfl,aa (l_ HB1),GB.mono (by omega)⟩
 ·unfold kA at KD;have q0:W1.cell? (aq g (i*16))=some (Iq kd):=ii 0 _ rfl;have q1:W1.cell? (aq g (i*16+1))=some (Iq a0):=ii 1 _ rfl;have q2:W1.cell? (aq g (i*16+2))=some (Iq a1):=ii 2 _ rfl;have q3:W1.cell? (aq g (i*16+3))=some (Iq a2):=ii 3 _ rfl;have q4:W1.cell? (aq g (i*16+4))=some (Iq a3):=ii 4 _ rfl;have q5:W1.cell? (aq g (i*16+5))=some (Iq a4):=ii 5 _ rfl;have q6:W1.cell? (aq g (i*16+6))=some (Iq a5):=ii 6 _ rfl;have q7:W1.cell? (aq g (i*16+7))=some (Iq a6):=ii 7 _ rfl;have q8:W1.cell? (aq g (i*16+8))=some (Iq a7):=ii 8 _ rfl;have q9:W1.cell? (aq g (i*16+9))=some (Iq a8):=ii 9 _ rfl;have _G:W1.cell? (aq g (i*16+10))=some (Iq a9):=ii 10 _ rfl;have _H:W1.cell? (aq g (i*16+11))=some (Iq b0):=ii 11 _ rfl;have _I:W1.cell? (aq g (i*16+12))=some (Iq b1):=ii 12 _ rfl;have _J:W1.cell? (aq g (i*16+13))=some (.string tx):=ii 13 _ rfl;have _K:W1.cell? (aq g (i*16+14))=some (kv):=ii 14 _ rfl;have _L:W1.cell? (aq g (i*16+15))=some (Iq up):=ii 15 _ rfl;have WC:=qH<|hWk W1.drew (l_ HB1) GB;have hmr:=HM1.ne hM1;have hAr:=HM1.ne hA1;have Jo:=qH<|hM1;have Jl:=qH<|hA1;have OK:=(az.1 hM1).1;have EY:=(az.1 hA1).1;clear hM1 hA1 hb1 hM hWk;go_enter func158,ntmps158;go_wp2;go_region;all_goals
   go_wp2_with fail;refine WC.mono ?_;rintro e U ⟨x,rfl,hx,HGU,HMU⟩;have E5:W1.drew.heap.size=W1.heap.size:=rfl;have hM4:=(HGU.block mb OK (fun e=>hmr (by simpa using e))).trans Jo;have hA4:=(HGU.block A EY (fun e=>hAr (by simpa using e))).trans Jl;have v0:U.cell? (aq A 0)=some (Iq (i:Int)):=by rw[Lib.cell_of_heap hA4];rfl
   have v1:U.cell? (aq A 1)=some (Iq w):=by rw[Lib.cell_of_heap hA4];rfl
   have v2:U.cell? (aq mb 2)=some (.map (some r)):=by rw[Lib.cell_of_heap hM4];rfl
   have VG:=qH<|HMU.kept (W':=U.drew) (row:=none) (aa (l_ (ag _ U))) (by simp);have zf3:iI (H i w):=by rw[<-hx];have:=dq x;unfold iI;omega
   obtain⟨U2,hup,hme,hgr2⟩:=VG.put zbC zcl zf3 (by omega);unfold kA at hup;have HME:=qH<|hme;have _4:Hid (W.grownBy U2 (some r)):=by have g1:W.grownBy W1.drew (some r):=aa (l_ HB1);have g2:=g1.trans HGU;have g3:=g2.trans (aa (l_ (ag _ U)));exact g3.trans hgr2
   have LN:=qH<|fun u=>by have:=length_any x u;rw[hx]at this;exact this
   clear hM4 hA4 hme hgr2 hx;go_wp2_with(go_at_call 118;refine(LN _).mono ?_;rintro e u ⟨rfl,hu⟩;obtain rfl:=hu.symm);go_region;all_goals go_wp2;go_ret;simp_all
def fO(kd a0 a1 a2 a3 a4 a5 a6 a7 a8 a9 b0 b1:Int)(tx:ByteArray)(kv:Value)(up:Int):Value:=.agg #[Iq kd,Iq a0,Iq a1,Iq a2,Iq a3,Iq a4,Iq a5,Iq a6,Iq a7,Iq a8,Iq a9,Iq b0,Iq b1,.string tx,kv,Iq up]
def kT(kd a5 a6:Int):Int:=if kd=3 then a6+a5 else 0
def nP(a4:Int)(m:Nat):Int:=a4*max 0 ((m:Int)-1)
def rz(n m:Int):Int:=if m<0 then n else min n m
theorem EU{kd a5 a6}(h5:0<=a5/\a5<=1000000)(h6:0<=a6/\a6<=1000000):0<=kT kd a5 a6/\kT kd a5 a6<=2000000:=by grind[kT]
theorem mg(kd a0 a1 a2 a3 a4 a5 a6 a7 a8 a9 b0 b1 up:Int)(tx:ByteArray)(p:Option Addr)(m c:Nat)(h5:0<=a5/\a5<=1000000)(h6:0<=a6/\a6<=1000000)(w:World):
 Cw 157 #[fO kd a0 a1 a2 a3 a4 a5 a6 a7 a8 a9 b0 b1 tx (.slice p m c) up] w fun e w'=>e=Rw (Iq (kT kd a5 a6))/\Hid (Bt w w'):=by
 unfold fO;by_cases h3:kd=3
 ·subst h3;have hf:kT 3 a5 a6=a6+a5:=by unfold kT;rw[if_pos rfl]
  rw[hf];go_enter func157,ntmps157;go_wp2;go_ret;exact⟨by go_num,((Gr.refl w).alloc _).below⟩
 ·have hf:kT kd a5 a6=0:=by unfold kT;rw[if_neg h3]
  have bj:(kd !=3)=true:=by simpa using h3
  rw[hf];go_enter func157,ntmps157;go_wp2;go_ret;exact⟨rfl,((Gr.refl w).alloc _).below⟩
theorem BF(kd a0 a1 a2 a3 a4 a5 a6 a7 a8 a9 b0 b1 up:Int)(tx:ByteArray)(p:Option Addr)(m c:Nat)(h4:0<=a4/\a4<=1000000)(hm:m<=1000000)(w:World):
    Cw 156 #[fO kd a0 a1 a2 a3 a4 a5 a6 a7 a8 a9 b0 b1 tx (.slice p m c) up] w fun e w'=>e=Rw (Iq (nP a4 m))/\Hid (Bt w w'):=by
  unfold fO;obtain⟨q,hq⟩:=af (max 0 ((m:Int)-1));have lA:0<=q/\q<=1000000:=by omega
  have zg_:0<=a4*q/\a4*q<=1000000*1000000:=⟨kh h4.1 lA.1,nu h4.2 lA.2 lA.1 (by omega)⟩;have iO:IntKind.i64.wrap (a4*q)=a4*q:=IntWalk.i64_in _ (by omega);have hg:nP a4 m=a4*q:=by unfold nP;rw[hq]
  rw[hg];go_enter func156,ntmps156;go_wp2;all_goals
    go_ret;refine⟨?_,((Gr.refl w).alloc _).below⟩;refine congrArg (fun n:Int=>Ending.returned (Iq n)) (?_:_=a4*q);first
      | (have e:q=(m:Int)-1:=by omega
         rw[e]at zg_⊢;exact IntWalk.wrap64_in _ (by omega))
      | (have e:q=0:=by omega
         rw[e,Int.mul_zero];exact IntWalk.wrap64_in _ (by omega))
theorem atMost_any(n m:Int)(w:World):Cw 234 #[Iq n,Iq m] w fun e w'=>e=Rw (Iq (rz n m))/\w'=w:=by
 by_cases h:m<0
 ·have hf:rz n m=n:=by unfold rz;rw[if_pos h]
  rw[hf];go_enter func234,ntmps234;go_wp2;go_ret;simp_all
 ·have hf:rz n m=min n m:=by unfold rz;rw[if_neg h]
  rw[hf];go_enter func234,ntmps234;go_wp2;all_goals go_ret;refine⟨?_,rfl⟩;refine congrArg (fun n:Int=>Ending.returned (Iq n)) (?_:_=min n m);omega
theorem Fm(n:Int)(w:World):Cw 62 #[Iq n] w fun e w'=>e=Rw (.bool (decide (1<=n/\n<=400)))/\w'=w:=by
 by_cases h1:1<=n
 ·by_cases h2:n<=400;·rw[decide_eq_true (show 1<=n/\n<=400 from⟨h1,h2⟩)];go_enter func62,ntmps62;go_wp2;go_ret;simp_all
  ·rw[decide_eq_false (show¬(1<=n/\n<=400)from fun e=>h2 e.2)];go_enter func62,ntmps62;go_wp2;go_ret;simp_all
 ·rw[decide_eq_false (show¬(1<=n/\n<=400)from fun e=>h1 e.1)];go_enter func62,ntmps62;go_wp2;go_ret;simp_all
def hS(h:Nat->Int):Nat->Int
 |0=>0
 |k+1=>hS h k+h k
def hG(h:Nat->Int):Nat->Int
 |0=>0
 |k+1=>max (hG h k) (h k)
def cS(c:Nat->Nat):Nat->Nat
 |0=>0
 |k+1=>cS c k+c k
theorem BP{h}{m}(hh:∀j,j<m->0<=h j/\h j<=100000):∀k,k<=m->0<=hS h k/\hS h k<=100000*(k:Int)
 |0,_=>by simp[hS]
 |k+1,hk=>by have h1:=BP hh k (by omega);grind[hS]
theorem BM{h}{m}(hh:∀j,j<m->0<=h j/\h j<=100000):∀k,k<=m->0<=hG h k/\hG h k<=100000
 |0,_=>by simp[hG]
 |k+1,hk=>by have h1:=BM hh k (by omega);grind[hG]
def wW(kd a4 a5 a6:Int)(h:Nat->Int)(m:Nat):Int:=if kd=1 then hS h m+nP a4 m else hG h m+2*kT kd a5 a6
def gm(W:World)(r:Nat)(p:Option Addr)(m:Nat)(v:Nat->Int):Prop:=m=0\/∃b o,p=some (aq b o)/\b<W.heap.size/\b≠r/\∀j,j<m->W.cell? (aq b (o+j))=some (Iq (v j))
theorem gm.grown{W W'}{r m}{p}{v}(h:gm W r p m v)(hg:W.grownBy W' (some r)):gm W' r p m v:=by
 rcases h with h|⟨b,o,e,h1,h2,h3⟩;·exact .inl h
 ·exact .inr ⟨b,o,e,zz007 h1 hg.size,h2,fun j hj=>(ba (hg.block b h1 (fun q=>h2 (by grind)))).trans (h3 j hj)⟩
def VY(U U':World)(r m:Nat)(kd a4 a5 a6:Int)(ks:Nat->Nat)(H:Nat->Int->Int)(Jy:(Nat->Int)->Prop)(n:Nat)(e:Ending):Prop:=∃V,Jy V/\e=Rw (Iq (wW kd a4 a5 a6 (fun j=>H (ks j) (V j)) m))/\U.grownBy U' (some r)/\aW U' r H n
def lh(U U':World)(r m:Nat)(H:Nat->Int->Int)(Jy:(Nat->Int)->Prop)(n:Nat)(e:Ending):Prop:=∃q cq V,Jy V/\e=Rw (.slice q m cq)/\gm U' r q m V/\U.grownBy U' (some r)/\aW U' r H n
theorem Vu(mb r n m:Nat)(w:Int)(H:Nat->Int->Int)(Jy:(Nat->Int)->Prop)(ks:Nat->Nat)(kc:Nat->Nat)(kd a0 a1 a2 a3 a4 a5 a6 a7 a8 a9 b0 b1 up:Int)(tx:ByteArray)(p:Option Addr)(c:Nat)(U:World)
 (Ws:kd≠5) (hm:m<=1000) (h4:0<=a4/\a4<=1000000) (h5:0<=a5/\a5<=1000000) (h6:0<=a6/\a6<=1000000) (hhb:Hid (∀j v,j<m->0<=H (ks j) v/\H (ks j) v<=100000)) (jd:Hid (∀j,j<m->ks j<=1000000)) (hr:r<U.heap.size)
 (hM:Hid (aW U r H n)) (hK:Hid (gm U r p m (fun j=>(ks j:Int))))
 (KW:Hid (∀u,Bt U u->aW u r H n->Cw 228 #[Pq mb,fO kd a0 a1 a2 a3 a4 a5 a6 a7 a8 a9 b0 b1 tx (.slice p m c) up,Iq w] u fun e u'=>lh u u' r m H Jy n e))
 (HKV:Hid (∀V,Jy V->∀j u nn,j<m->U.grownBy u (some r)->aW u r H nn->nn<=n+cS kc j->Cw 158 #[Pq mb,Iq (ks j:Int),Iq (V j)] u fun e u'=>e=Rw (Iq (H (ks j) (V j)))/\Hid (u.grownBy u' (some r))/\Hid (aW u' r H (n+cS kc (j+1))))):
 Cw 197 #[Pq mb,fO kd a0 a1 a2 a3 a4 a5 a6 a7 a8 a9 b0 b1 tx (.slice p m c) up,Iq w] U fun e U'=>VY U U' r m kd a4 a5 a6 ks H Jy (n+cS kc m) e:=by
 have e5:(kd==5)=false:=by simpa using Ws
 obtain⟨ob,hob⟩:∃z:Obj,Obj.cells #[Iq kd,Iq a0,Iq a1,Iq a2,Iq a3,Iq a4,Iq a5,Iq a6,Iq a7,Iq a8,Iq a9,Iq b0,Iq b1,.string tx,.slice p m c,Iq up] 94=z:=⟨_,rfl⟩;obtain⟨U1,wA⟩:=af (U.alloc (.cells #[Iq kd,Iq a0,Iq a1,Iq a2,Iq a3,Iq a4,Iq a5,Iq a6,Iq a7,Iq a8,Iq a9,Iq b0,Iq b1,.string tx,.slice p m c,Iq up] 94));obtain⟨A,hA⟩:=af U.heap.size;have hb1:Bt U U1:=by rw[<-wA];exact((Gr.refl U).alloc _).below
 have dm:U1.heap[A]?=some (.cells #[Iq kd,Iq a0,Iq a1,Iq a2,Iq a3,Iq a4,Iq a5,Iq a6,Iq a7,Iq a8,Iq a9,Iq b0,Iq b1,.string tx,.slice p m c,Iq up] 94 (0,0)):=by rw[<-wA,<-hA];show(U.heap.push _)[U.heap.size]?=_;exact I7
 have dj:Hid (∀u,U1.grownBy u (some r)->∀t x,(#[Iq kd,Iq a0,Iq a1,Iq a2,Iq a3,Iq a4,Iq a5,Iq a6,Iq a7,Iq a8,Iq a9,Iq b0,Iq b1,.string tx,.slice p m c,Iq up]:Array Value)[t]?=some x->u.cell? (aq A t)=some x):=fun u hu t x ht=>by have EY:=(az.1 dm).1;have:=hu.block A EY (fun e=>by grind);rw[Lib.cell_of_heap (this.trans dm)];exact ht
 have HG1:Hid (U.grownBy U1 (some r)):=aa hb1;have HB1:=qH<|hb1;have z0:=dj U1 (aa (ag _ U1)) 0 _ rfl;have z1:=dj U1 (aa (ag _ U1)) 1 _ rfl;have z2:=dj U1 (aa (ag _ U1)) 2 _ rfl;have z3:=dj U1 (aa (ag _ U1)) 3 _ rfl;have z4:=dj U1 (aa (ag _ U1)) 4 _ rfl;have z5:=dj U1 (aa (ag _ U1)) 5 _ rfl;have z6:=dj U1 (aa (ag _ U1)) 6 _ rfl;have z7:=dj U1 (aa (ag _ U1)) 7 _ rfl;have z8:=dj U1 (aa (ag _ U1)) 8 _ rfl;have z9:=dj U1 (aa (ag _ U1)) 9 _ rfl;have Sd:=dj U1 (aa (ag _ U1)) 10 _ rfl;have Se:=dj U1 (aa (ag _ U1)) 11 _ rfl;have Sf:=dj U1 (aa (ag _ U1)) 12 _ rfl;have Sg:=dj U1 (aa (ag _ U1)) 13 _ rfl;have Vw:=dj U1 (aa (ag _ U1)) 14 _ rfl;have Sh:=dj U1 (aa (ag _ U1)) 15 _ rfl;clear hb1 dm hob;unfold fO at KW⊢;go_enter func197,ntmps197;go_wp2_with fail;refine(KW _ HB1 (hM.kept (aa (row:=none) HB1) (by simp))).mono ?_;rintro e U2 ⟨q,cq,V,hvk,rfl,hv,hg12,hm2⟩;have HVK:=qH<|hvk;have HV:=qH<|hv;have HG12:=qH<|hg12;have qT:=qH<|HG1.trans HG12;have GB:=qH<|hm2;have Gz:=qH<|hK.grown qT;obtain⟨h,Wq⟩:∃h:Nat->Int,(fun j=>H (ks j) (V j))=h:=⟨_,rfl⟩;have hh:Hid (∀j,j<m->0<=h j/\h j<=100000):=by rw[<-Wq];exact fun j hj=>hhb j _ hj
 have HK:Hid (∀j u nn,j<m->U.grownBy u (some r)->aW u r H nn->nn<=n+cS kc j->Cw 158 #[Pq mb,Iq (ks j:Int),Iq (V j)] u fun e u'=>e=Rw (Iq (h j))/\Hid (u.grownBy u' (some r))/\Hid (aW u' r H (n+cS kc (j+1)))):=by rw[<-Wq];exact HKV V hvk
 have zab:Hid (∀e u,e=Rw (Iq (wW kd a4 a5 a6 h m))->U.grownBy u (some r)->aW u r H (n+cS kc m)->VY U u r m kd a4 a5 a6 ks H Jy (n+cS kc m) e):=fun e u h1 h2 h3=>⟨V,HVK,by grind,h2,h3⟩;have zii:=dj U2 HG12 14 _ rfl;clear z0 z1 z2 z3 z4 z5 z6 z7 z8 z9 Sd Se Sf Sg Vw Sh KW Wq hvk hv hg12 hm2 HKV hhb;generalize pQ:Value.agg #[Iq kd,Iq a0,Iq a1,Iq a2,Iq a3,Iq a4,Iq a5,Iq a6,Iq a7,Iq a8,Iq a9,Iq b0,Iq b1,.string tx,.slice p m c,Iq up]=nv;go_wp2_with fail;go_loopw[7,8,26] (fun sv gv kv wr=>∃k:Nat,k<=m/\kv=Iq (k:Int)/\sv=Iq (hS h k)/\gv=Iq (hG h k)/\Hid (U2.grownBy wr (some r))/\Hid (aW wr r H (n+cS kc k))) (fun _ _ kv _=>m-(intOf kv).toNat);case atStart=>exact⟨0,bm _,rfl,rfl,rfl,aa (ag _ _),GB⟩
 case round=>
  obtain⟨k,hk,rfl,rfl,rfl,LJ,Xq⟩:=hrel;by_cases hlt:k<m
  ·have aR:(k:Int)<(m:Int):=by omega
   have hbs:=BP hh k hk;have hbg:=BM hh k hk;have hbh:=hh k hlt;have L6:=jd k hlt;obtain⟨kb,ko,rfl,_,_,Wk⟩:=(Gz.grown LJ).resolve_left (by omega);obtain⟨vb,vo,rfl,_,_,Z9⟩:=(HV.grown LJ).resolve_left (by omega);have cv:=Z9 k hlt;have HC:=qH<|HK k wr _ hlt (qT.trans LJ) Xq (ae _);obtain⟨S,sj⟩:=af (hS h k);obtain⟨G,Th⟩:=af (hG h k);obtain⟨x,hx⟩:=af (h k);obtain⟨vv,hvv⟩:=af (V k);have ck:=Wk k hlt;have Mr:Hid (hS h (k+1)=S+x):=by show _=_;rw[<-sj,<-hx];rfl
   have HG1:Hid (hG h (k+1)=max G x):=by show _=_;rw[<-Th,<-hx];rfl
   rw[sj]at hbs;rw[Th]at hbg;rw[hx]at hbh HC;rw[hvv]at HC;rw[hvv]at cv;rw[sj,Th];have HBS:=qH<|hbs;have HBG:=qH<|hbg;have HBH:=qH<|hbh;clear sj Th hx hvv Wk Z9 hbs hbg hbh L6 wA hA zii h4 h5 h6 Ws hr;go_wp2_with(go_at_call 158;refine HC.mono ?_;rintro e wz ⟨rfl,HGz,HMz⟩;have hbs:=HBS.out;have hbg:=HBG.out;have hbh:=HBH.out);all_goals
    go_roundw;case rel=>exact⟨k+1,hlt,by go_num,by rw[Mr.out],by rw[HG1.out];grind,LJ.trans HGz,HMz⟩
    case measure=>simp[intOf];omega
  ·have aR:¬(k:Int)<(m:Int):=by omega
   obtain rfl:k=m:=by omega
   have Eh:=qH<|HG12.trans LJ;have y0:=dj wr Eh 0 _ rfl;have y1:=dj wr Eh 1 _ rfl;have y2:=dj wr Eh 2 _ rfl;have y3:=dj wr Eh 3 _ rfl;have y4:=dj wr Eh 4 _ rfl;have y5:=dj wr Eh 5 _ rfl;have y6:=dj wr Eh 6 _ rfl;have y7:=dj wr Eh 7 _ rfl;have y8:=dj wr Eh 8 _ rfl;have y9:=dj wr Eh 9 _ rfl;have y10:=dj wr Eh 10 _ rfl;have y11:=dj wr Eh 11 _ rfl;have y12:=dj wr Eh 12 _ rfl;have y13:=dj wr Eh 13 _ rfl;have y14:=dj wr Eh 14 _ rfl;have y15:=dj wr Eh 15 _ rfl;have hbs:=BP hh k hk;have hbg:=BM hh k hk;have GA:=qH<|fun u=>BF kd a0 a1 a2 a3 a4 a5 a6 a7 a8 a9 b0 b1 up tx p k c h4 (by omega) u;have FA:=qH<|fun u=>mg kd a0 a1 a2 a3 a4 a5 a6 a7 a8 a9 b0 b1 up tx p k c h5 h6 u;have Ek:0<=nP a4 k/\nP a4 k<=1000000000000:=by
    unfold nP;have lA:0<=max 0 ((k:Int)-1)/\max 0 ((k:Int)-1)<=1000000:=by omega
    exact⟨kh h4.1 lA.1,nu h4.2 lA.2 lA.1 (by omega)⟩
   have Ao:=EU (kd:=kd) h5 h6;unfold fO at GA FA;have _4:Hid (∀u,Bt wr u->U.grownBy u (some r)):=fun u hu=>(qT.trans LJ).trans (aa hu);have HME:Hid (∀u,Bt wr u->aW u r H (n+cS kc k)):=fun u hu=>Xq.kept (aa (row:=none) hu) (by simp);clear wA hA hr hh jd hM hK HK HV Gz dj LJ Xq qT GB HVK;rw[pQ]at GA FA;by_cases h1:kd=1
   ·subst h1;have hraw:wW 1 a4 a5 a6 h k=hS h k+nP a4 k:=by unfold wW;rw[if_pos rfl]
    obtain⟨S,sj⟩:=af (hS h k);obtain⟨gg,rh⟩:=af (nP a4 k);rw[sj,rh]at hraw;have vW:=qH<|hraw;rw[sj]at hbs⊢;rw[rh]at Ek GA;clear sj rh hraw;go_wp2_with(go_at_call 156;refine(GA _).mono ?_;rintro e wz ⟨rfl,Sm⟩);go_ret;exact zab _ _ (by rw[vW.out];rfl) (_4 _ Sm) (HME _ Sm)
   ·have hraw:wW kd a4 a5 a6 h k=hG h k+2*kT kd a5 a6:=by unfold wW;rw[if_neg h1]
    have e1:(kd==1)=false:=by simpa using h1
    obtain⟨S,sj⟩:=af (hG h k);obtain⟨gg,rh⟩:=af (kT kd a5 a6);rw[sj,rh]at hraw;have vW:=qH<|hraw;rw[sj]at hbg⊢;rw[rh]at Ao FA;clear sj rh hraw;go_wp2_with(go_at_call 157;refine(FA _).mono ?_;rintro e wz ⟨rfl,Sm⟩);go_ret;exact zab _ _ (by rw[vW.out];rfl) (_4 _ Sm) (HME _ Sm)
