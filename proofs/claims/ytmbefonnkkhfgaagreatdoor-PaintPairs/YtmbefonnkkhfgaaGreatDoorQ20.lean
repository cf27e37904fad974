import Derived.Test.YtmbefonnkkhfgaaGreatDoorQ07
import Derived.Test.YtmbefonnkkhfgaaGreatDoorQ17
import Derived.Maps.OwnSet
import Derived.Maps.Views
import Derived.Maps.OwnOps
import Derived.DeepKeys4
import Derived.Test.YtmbefonnkkhfgaaGreatDoorQ00
set_option linter.unusedVariables false
set_option maxRecDepth 100000
set_option maxHeartbeats 16000000
namespace Go.Proofs.YtmbefonnkkhfgaaGreatDoor
section
open Go.RowKit Go.Sort Go.Proofs.Tryz
def W64(n:Int):Prop:=-9223372036854775808≤n∧n≤9223372036854775807
theorem W64.wf{n:Int}(h:W64 n):(Lit.int .i64 n).wf=true:=by
 unfold W64 at h;have e1:IntKind.i64.min=-9223372036854775808:=by decide
 have e2:IntKind.i64.max=9223372036854775807:=by decide
 simp[Lit.wf,e1,e2];omega
def kA(i w:Int):Value:=.agg #[.int .i64 i,.int .i64 w]
def kL(i w:Int):Lit:=.string (keyBytes [.int .i64 i,.int .i64 w])
theorem key_at{i w:Int}(hi:W64 i)(hw:W64 w):keyOf prog 207 (kA i w)=some (kL i w):=by
 have h1:=hi.wf;have h2:=hw.wf;have hk:prog.keyType 207=true:=by kernel_rfl
 have hf:(kA i w).formed prog 207=true:=by unfold kA Value.formed;rw[underlying207];show(2==prog.cellsOf 207)=true;kernel_rfl
 obtain⟨m,hm⟩:∃m,prog.types.size+1=m+2:=⟨prog.types.size-1,by kernel_rfl⟩;have hc:prog.cellsOf 207=2:=by kernel_rfl
 have hc3:prog.cellsOf 3=1:=by kernel_rfl
 have hl:prog.keyLits (m+2) 207 [.int .i64 i,.int .i64 w]=some [.int .i64 i,.int .i64 w]:=by simp[Program.keyLits,underlying207,underlying3,hc,hc3,h1,h2]
 unfold keyOf;rw[underlying207];dsimp only;rw[hk,hf,hm];show(if(true&&true)=true then((prog.keyLits (m+2) 207 [.int .i64 i,.int .i64 w]).map fun ls=>Lit.string (keyBytes ls))else none)=_;rw[hl];rfl
theorem key_law:WideMaps.KeyLaw prog 207:=deep_law_laid (by kernel_rfl) (m:=5) (by omega) (of_decide_eq_true (by kernel_rfl)) (by kernel_rfl) (by kernel_rfl)
theorem keyed:Maps.Keyed prog 207:=Maps.Keyed.of_law key_law
theorem kL_inj{i w j v:Int}(hi:W64 i)(hw:W64 w)(hj:W64 j)(hv:W64 v)(h:kL i w=kL j v):i=j∧w=v:=by have h1:=key_at hi hw;have h2:=key_at hj hv;rw[<-h]at h2;have:=key_law.inj h1 h2;unfold kA at this;simp at this;exact this
structure Memo(W:World)(r:Nat)(H:Nat->Int->Int)(n:Nat):Prop where
 own:∃D:DataW Unit,W.ownsMap prog 207 (plainElem prog 3) r n D∧∀(i:Nat) (w:Int),W64 i->W64 w->Maps.has D (kL i w)=true->D.atKey (kL i w) (.lit (.int .i64 0))=.lit (.int .i64 (H i w))
theorem Memo.new(w:World)(H:Nat->Int->Int):Memo (w.alloc (.map #[] 0)) w.heap.size H 0:=by refine⟨.map [],World.ownsMap_made w _ _ _,fun i v _ _ h=>?_⟩;simp[Maps.has]at h
theorem Memo.kept{W W':World}{r n:Nat}{H:Nat->Int->Int}{row:Option Nat}(h:Memo W r H n)(hg:W.grownBy W' row)(hne:some r≠row):Memo W' r H n:=by obtain⟨D,h1,h2⟩:=h.own;exact⟨D,h1.kept hg hne,h2⟩
theorem Memo.mono{W:World}{r n n':Nat}{H:Nat->Int->Int}(h:Memo W r H n)(hn:n≤n'):Memo W r H n':=by obtain⟨D,h1,h2⟩:=h.own;exact⟨D,h1.mono hn,h2⟩
theorem Memo.lt{W:World}{r n:Nat}{H:Nat->Int->Int}(h:Memo W r H n):r<W.heap.size:=by obtain⟨D,h1,_⟩:=h.own;exact h1.lt
theorem Memo.look{W:World}{r n:Nat}{H:Nat->Int->Int}(h:Memo W r H n){i:Nat}{w:Int}(hi:W64 i)(hw:W64 w):
 (Instr.lookup 106 (.map (some r)) (kA i w) true).run prog W=.ok (.tuple #[.int .i64 (H i w),.bool true]) W∨∃c,(Instr.lookup 106 (.map (some r)) (kA i w) true).run prog W=.ok (.tuple #[.int .i64 c,.bool false]) W:=by
 obtain⟨D,h1,h2⟩:=h.own;obtain⟨v,ps,hrun,hv⟩:=h1.look_ok keyed (t:=106) (e:=3) (by kernel_rfl) (z:=.int .i64 0) (zeroValue3 W) (zd:=.lit (.int .i64 0)) (zp:=[]) (plainElem_int underlying3 (by decide)) (key_at hi hw);obtain⟨c,rfl,hc,hwc⟩:=plainElem_int_inv underlying3 hv;simp only[Prod.mk.injEq]at hc;cases hb:Maps.has D (kL i w)with
 |true=>
  left;rw[hb]at hrun;have h3:=h2 i w hi hw hb;rw[hc.1]at h3;have h4:c=H i w:=by simpa using h3
  rw[<-h4];exact hrun
 |false=>right;rw[hb]at hrun;exact⟨c,hrun⟩
theorem Memo.put{W:World}{r n:Nat}{H:Nat->Int->Int}(h:Memo W r H n){i:Nat}{w:Int}(hi:W64 i)(hw:W64 w)(hH:W64 (H i w))(hn:n<1000000000000):
 ∃W',(Instr.mapUpdate 106 (.map (some r)) (kA i w) (.int .i64 (H i w))).run prog W=.ok () W'∧Memo W' r H (n+1)∧W.grownBy W' (some r):=by
 obtain⟨D,h1,h2⟩:=h.own;obtain⟨W',hrun,ho,hg⟩:=h1.update keyed (t:=106) (e:=3) (by kernel_rfl) (by unfold maxLen;omega) (key_at hi hw) (plainElem_int underlying3 hH.wf);refine⟨W',hrun,⟨_,ho,fun j v hj hv hb=>?_⟩,hg⟩;by_cases e:kL j v=kL i w
 ·obtain⟨e1,e2⟩:=kL_inj hj hv hi hw e;have e1:j=i:=by omega
  subst e1;subst e2;exact Maps.atKey_put_same (h1.isMap) (keyed.key (key_at hi hw)) _ _
 ·rw[Maps.atKey_put_other e];rw[Maps.has_put_other e]at hb;exact h2 j v hj hv hb
end
section
open Go.RowKit Go.Sort Go.Proofs.Tryz
def Ms(W:World)(mb:Nat)(nv wv:Value)(r:Nat):Prop:=W.heap[mb]?=some (.cells #[nv,wv,.map (some r)] 108 (0,0))
theorem grown_of_below{W W':World}{row:Option Nat}(h:Below W.heap.size W W'):W.grownBy W' row:=⟨h.os,h.tape,h.output,h.size,fun b hb _=>h.block b hb⟩
theorem Memo.map{W:World}{r n:Nat}{H:Nat->Int->Int}(h:Memo W r H n):∃es clock,W.heap[r]?=some (.map es clock):=by obtain⟨D,⟨es,clock,hb,_⟩,_⟩:=h.own;exact⟨es,clock,hb⟩
theorem Memo.ne{W:World}{r n b:Nat}{H:Nat->Int->Int}(h:Memo W r H n){c:Array Value}{t:TypeId}{fz:Nat×Nat}(hb:W.heap[b]?=some (.cells c t fz)):b≠r:=by intro e;subst e;obtain⟨es,clock,hm⟩:=h.map;rw[hm]at hb;cases hb
theorem height_of(mb r g i n k N cap:Nat)(w:Int)(H:Nat->Int->Int)(wv:Value)(kd a0 a1 a2 a3 a4 a5 a6 a7 a8 a9 b0 b1 up:Int)(tx:ByteArray)(kv:Value)(W:World)
 (hM:Ms W mb (Sq g N cap) wv r) (hm:Hid (Memo W r H n)) (hi:i<N) (hN:N≤1000000) (hi64:W64 i) (hw64:W64 w) (hnk:n+k+1<1000000000000)
 (hg:g<W.heap.size) (hgr:g≠r) (hC:Hid (∀t x,(#[Iq kd,Iq a0,Iq a1,Iq a2,Iq a3,Iq a4,Iq a5,Iq a6,Iq a7,Iq a8,Iq a9,Iq b0,Iq b1,.string tx,kv,Iq up]:Array Value)[t]?=some x->W.cell? ⟨g,i*16+t,none⟩=some x))
 (hWk:Hid (∀U,Below W.heap.size W U->Memo U r H n->Calls prog 134 #[Pq mb,.agg #[Iq kd,Iq a0,Iq a1,Iq a2,Iq a3,Iq a4,Iq a5,Iq a6,Iq a7,Iq a8,Iq a9,Iq b0,Iq b1,.string tx,kv,Iq up],Iq w] U fun e U'=>∃x,e=.returned (Iq x)∧lenI x=H i w∧Hid (U.grownBy U' (some r))∧Hid (Memo U' r H (n+k)))):
 Calls prog 81 #[Pq mb,Iq (i:Int),Iq w] W fun e W'=>e=.returned (Iq (H i w))∧Hid (W.grownBy W' (some r))∧Hid (Memo W' r H (n+k+1)):=by
 have hmix:prog.follows .mixedOrders=true:=by kernel_rfl
 obtain⟨W1,hW1⟩:=nmd (W.alloc (.cells #[Iq (i:Int),Iq w] 207));obtain⟨A,hA⟩:=nmd W.heap.size;have hb1:Below W.heap.size W W1:=by rw[<-hW1];exact((Gr.refl W).alloc _).below
 have hA1:W1.heap[A]?=some (.cells #[Iq (i:Int),Iq w] 207 (0,0)):=by rw[<-hW1,<-hA];show(W.heap.push _)[W.heap.size]?=_;exact Array.getElem?_push_size
 have hMl:=(Array.getElem?_eq_some_iff.1 hM).1;have hM1:=(hb1.block mb hMl).trans hM;have HM1:=qH<|hm.kept (grown_of_below (row:=none) hb1) (by simp);have HM2:=qH<|HM1.kept (W':=W1.drew) (row:=none) (grown_of_below (Below.drew (Below.refl _ W1))) (by simp);have k0:W1.cell? ⟨A,0,none⟩=some (Iq (i:Int)):=by rw[Lib.cell_of_heap hA1];rfl
 have k1:W1.cell? ⟨A,1,none⟩=some (Iq w):=by rw[Lib.cell_of_heap hA1];rfl
 have m0:W1.cell? ⟨mb,0,none⟩=some (Sq g N cap):=by rw[Lib.cell_of_heap hM1];rfl
 have m2:W1.cell? ⟨mb,2,none⟩=some (.map (some r)):=by rw[Lib.cell_of_heap hM1];rfl
 have HC1:=qH<|fun t x ht=>(hb1.cell (p:=⟨g,_,none⟩) hg).trans (hC t x ht);have HB1:=qH<|hb1;have hiI:(i:Int)<(N:Int):=by omega
 rcases HM2.look hi64 hw64 with hlk|⟨c,hlk⟩;·unfold kA at hlk;clear hM1 hA1 hb1 hM;go_enter func81,ntmps81;go_wp2;go_region;all_goals go_wp2;go_ret;exact⟨rfl,grown_of_below (Below.drew HB1),HM2.mono (by omega)⟩
 ·unfold kA at hlk;have q0:W1.cell? ⟨g,i*16,none⟩=some (Iq kd):=HC1 0 _ rfl;have q1:W1.cell? ⟨g,i*16+1,none⟩=some (Iq a0):=HC1 1 _ rfl;have q2:W1.cell? ⟨g,i*16+2,none⟩=some (Iq a1):=HC1 2 _ rfl;have q3:W1.cell? ⟨g,i*16+3,none⟩=some (Iq a2):=HC1 3 _ rfl;have q4:W1.cell? ⟨g,i*16+4,none⟩=some (Iq a3):=HC1 4 _ rfl;have q5:W1.cell? ⟨g,i*16+5,none⟩=some (Iq a4):=HC1 5 _ rfl;have q6:W1.cell? ⟨g,i*16+6,none⟩=some (Iq a5):=HC1 6 _ rfl;have q7:W1.cell? ⟨g,i*16+7,none⟩=some (Iq a6):=HC1 7 _ rfl;have q8:W1.cell? ⟨g,i*16+8,none⟩=some (Iq a7):=HC1 8 _ rfl;have q9:W1.cell? ⟨g,i*16+9,none⟩=some (Iq a8):=HC1 9 _ rfl;have q10:W1.cell? ⟨g,i*16+10,none⟩=some (Iq a9):=HC1 10 _ rfl;have q11:W1.cell? ⟨g,i*16+11,none⟩=some (Iq b0):=HC1 11 _ rfl;have q12:W1.cell? ⟨g,i*16+12,none⟩=some (Iq b1):=HC1 12 _ rfl;have q13:W1.cell? ⟨g,i*16+13,none⟩=some (.string tx):=HC1 13 _ rfl;have q14:W1.cell? ⟨g,i*16+14,none⟩=some (kv):=HC1 14 _ rfl;have q15:W1.cell? ⟨g,i*16+15,none⟩=some (Iq up):=HC1 15 _ rfl;have WC:=qH<|hWk W1.drew (Below.drew HB1) HM2;have hmr:=HM1.ne hM1;have hAr:=HM1.ne hA1;have HM3:=qH<|hM1;have HA3:=qH<|hA1;have hml:=(Array.getElem?_eq_some_iff.1 hM1).1;have hAl:=(Array.getElem?_eq_some_iff.1 hA1).1;clear hM1 hA1 hb1 hM hWk;go_enter func81,ntmps81;go_wp2;go_region;all_goals
   go_wp2_with fail;refine WC.mono ?_;rintro e U ⟨x,rfl,hx,HGU,HMU⟩;have hd1:W1.drew.heap.size=W1.heap.size:=rfl;have hM4:=(HGU.block mb hml (fun e=>hmr (by simpa using e))).trans HM3;have hA4:=(HGU.block A hAl (fun e=>hAr (by simpa using e))).trans HA3;have v0:U.cell? ⟨A,0,none⟩=some (Iq (i:Int)):=by rw[Lib.cell_of_heap hA4];rfl
   have v1:U.cell? ⟨A,1,none⟩=some (Iq w):=by rw[Lib.cell_of_heap hA4];rfl
   have v2:U.cell? ⟨mb,2,none⟩=some (.map (some r)):=by rw[Lib.cell_of_heap hM4];rfl
   have HMD:=qH<|HMU.kept (W':=U.drew) (row:=none) (grown_of_below (Below.drew (Below.refl _ U))) (by simp);have hH64:W64 (H i w):=by rw[<-hx];have:=lenI_bd x;unfold W64;omega
   obtain⟨U2,hup,hme,hgr2⟩:=HMD.put hi64 hw64 hH64 (by omega);unfold kA at hup;have HME:=qH<|hme;have HGE:Hid (W.grownBy U2 (some r)):=by have g1:W.grownBy W1.drew (some r):=grown_of_below (Below.drew HB1);have g2:=g1.trans HGU;have g3:=g2.trans (grown_of_below (Below.drew (Below.refl _ U)));exact g3.trans hgr2
   have LN:=qH<|fun u=>by have:=length_any x u;rw[hx]at this;exact this
   clear hM4 hA4 hme hgr2 hx;go_wp2_with(go_at_call 50;refine(LN _).mono ?_;rintro e u ⟨rfl,hu⟩;obtain rfl:=hu.symm);go_region;all_goals go_wp2;go_ret;exact⟨rfl,HGE,HME⟩
end
section
open Go.RowKit Go.Sort Go.Proofs.Tryz
def ndA(kd a0 a1 a2 a3 a4 a5 a6 a7 a8 a9 b0 b1:Int)(tx:ByteArray)(kv:Value)(up:Int):Value:=.agg #[Iq kd,Iq a0,Iq a1,Iq a2,Iq a3,Iq a4,Iq a5,Iq a6,Iq a7,Iq a8,Iq a9,Iq b0,Iq b1,.string tx,kv,Iq up]
def frmI(kd a5 a6:Int):Int:=if kd=3 then a6+a5 else 0
def gapI(a4:Int)(m:Nat):Int:=a4*max 0 ((m:Int)-1)
def mostI(n m:Int):Int:=if m<0 then n else min n m
theorem frm_bd{kd a5 a6:Int}(h5:0≤a5∧a5≤1000000)(h6:0≤a6∧a6≤1000000):0≤frmI kd a5 a6∧frmI kd a5 a6≤2000000:=by unfold frmI;split<;>omega
theorem frame_any(kd a0 a1 a2 a3 a4 a5 a6 a7 a8 a9 b0 b1 up:Int)(tx:ByteArray)(p:Option Addr)(m c:Nat)(h5:0≤a5∧a5≤1000000)(h6:0≤a6∧a6≤1000000)(w:World):
 Calls prog 80 #[ndA kd a0 a1 a2 a3 a4 a5 a6 a7 a8 a9 b0 b1 tx (.slice p m c) up] w fun e w'=>e=.returned (Iq (frmI kd a5 a6))∧Hid (Below w.heap.size w w'):=by
 unfold ndA;by_cases h3:kd=3
 ·subst h3;have hf:frmI 3 a5 a6=a6+a5:=by unfold frmI;rw[if_pos rfl]
  rw[hf];go_enter func80,ntmps80;go_wp2;go_ret;exact⟨by go_num,((Gr.refl w).alloc _).below⟩
 ·have hf:frmI kd a5 a6=0:=by unfold frmI;rw[if_neg h3]
  have hne:(kd !=3)=true:=by simpa using h3
  rw[hf];go_enter func80,ntmps80;go_wp2;go_ret;exact⟨rfl,((Gr.refl w).alloc _).below⟩
theorem gaps_any(kd a0 a1 a2 a3 a4 a5 a6 a7 a8 a9 b0 b1 up:Int)(tx:ByteArray)(p:Option Addr)(m c:Nat)(h4:0≤a4∧a4≤1000000)(hm:m≤1000000)(w:World):
    Calls prog 79 #[ndA kd a0 a1 a2 a3 a4 a5 a6 a7 a8 a9 b0 b1 tx (.slice p m c) up] w fun e w'=>e=.returned (Iq (gapI a4 m))∧Hid (Below w.heap.size w w'):=by
  unfold ndA;obtain⟨q,hq⟩:=nmd (max 0 ((m:Int)-1));have hq1:0≤q∧q≤1000000:=by omega
  have hmul:0≤a4*q∧a4*q≤1000000*1000000:=⟨Int.mul_nonneg h4.1 hq1.1,Int.mul_le_mul h4.2 hq1.2 hq1.1 (by omega)⟩;have hw1:IntKind.i64.wrap (a4*q)=a4*q:=IntWalk.i64_in _ (by omega);have hg:gapI a4 m=a4*q:=by unfold gapI;rw[hq]
  rw[hg];go_enter func79,ntmps79;go_wp2;all_goals
    go_ret;refine⟨?_,((Gr.refl w).alloc _).below⟩;refine congrArg (fun n:Int=>Ending.returned (Iq n)) (?_:_=a4*q);first
      | (have e:q=(m:Int)-1:=by omega
         rw[e]at hmul⊢;exact IntWalk.wrap64_in _ (by omega))
      | (have e:q=0:=by omega
         rw[e,Int.mul_zero];exact IntWalk.wrap64_in _ (by omega))
theorem atMost_any(n m:Int)(w:World):Calls prog 165 #[Iq n,Iq m] w fun e w'=>e=.returned (Iq (mostI n m))∧w'=w:=by
 by_cases h:m<0
 ·have hf:mostI n m=n:=by unfold mostI;rw[if_pos h]
  rw[hf];go_enter func165,ntmps165;go_wp2;go_ret;exact⟨rfl,rfl⟩
 ·have hf:mostI n m=min n m:=by unfold mostI;rw[if_neg h]
  rw[hf];go_enter func165,ntmps165;go_wp2;all_goals go_ret;refine⟨?_,rfl⟩;refine congrArg (fun n:Int=>Ending.returned (Iq n)) (?_:_=min n m);omega
theorem isSide_any(n:Int)(w:World):Calls prog 23 #[Iq n] w fun e w'=>e=.returned (.bool (decide (1≤n∧n≤400)))∧w'=w:=by
 by_cases h1:1≤n
 ·by_cases h2:n≤400;·rw[decide_eq_true (show 1≤n∧n≤400 from⟨h1,h2⟩)];go_enter func23,ntmps23;go_wp2;go_ret;exact⟨rfl,rfl⟩
  ·rw[decide_eq_false (show¬(1≤n∧n≤400)from fun e=>h2 e.2)];go_enter func23,ntmps23;go_wp2;go_ret;exact⟨rfl,rfl⟩
 ·rw[decide_eq_false (show¬(1≤n∧n≤400)from fun e=>h1 e.1)];go_enter func23,ntmps23;go_wp2;go_ret;exact⟨rfl,rfl⟩
end
section
open Go.RowKit Go.Sort
def hS(h:Nat->Int):Nat->Int
 |0=>0
 |k+1=>hS h k+h k
def hG(h:Nat->Int):Nat->Int
 |0=>0
 |k+1=>max (hG h k) (h k)
def cS(c:Nat->Nat):Nat->Nat
 |0=>0
 |k+1=>cS c k+c k
theorem hS_bd{h:Nat->Int}{m:Nat}(hh:∀j,j<m->0≤h j∧h j≤100000):∀k,k≤m->0≤hS h k∧hS h k≤100000*(k:Int)
 |0,_=>by simp[hS]
 |k+1,hk=>by have h1:=hS_bd hh k (by omega);have h2:=hh k (by omega);unfold hS;omega
theorem hG_bd{h:Nat->Int}{m:Nat}(hh:∀j,j<m->0≤h j∧h j≤100000):∀k,k≤m->0≤hG h k∧hG h k≤100000
 |0,_=>by simp[hG]
 |k+1,hk=>by have h1:=hG_bd hh k (by omega);have h2:=hh k (by omega);unfold hG;omega
def rawH(kd a4 a5 a6:Int)(h:Nat->Int)(m:Nat):Int:=if kd=1 then hS h m+gapI a4 m else hG h m+2*frmI kd a5 a6
def IntsN(W:World)(r:Nat)(p:Option Addr)(m:Nat)(v:Nat->Int):Prop:=m=0∨∃b o,p=some ⟨b,o,none⟩∧b<W.heap.size∧b≠r∧∀j,j<m->W.cell? ⟨b,o+j,none⟩=some (Iq (v j))
theorem IntsN.grown{W W':World}{r m:Nat}{p:Option Addr}{v:Nat->Int}(h:IntsN W r p m v)(hg:W.grownBy W' (some r)):IntsN W' r p m v:=by
 rcases h with h|⟨b,o,e,h1,h2,h3⟩;·exact .inl h
 ·exact .inr ⟨b,o,e,Nat.lt_of_lt_of_le h1 hg.size,h2,fun j hj=>(World.cell?_of_block (hg.block b h1 (fun q=>h2 (by simpa using q)))).trans (h3 j hj)⟩
end
section
open Go.RowKit Go.Sort Go.Proofs.Tryz
def WkOut(U U':World)(r m:Nat)(kd a4 a5 a6:Int)(ks:Nat->Nat)(H:Nat->Int->Int)(VOk:(Nat->Int)->Prop)(n:Nat)(e:Ending):Prop:=∃V,VOk V∧e=.returned (Iq (rawH kd a4 a5 a6 (fun j=>H (ks j) (V j)) m))∧U.grownBy U' (some r)∧Memo U' r H n
def KwOut(U U':World)(r m:Nat)(H:Nat->Int->Int)(VOk:(Nat->Int)->Prop)(n:Nat)(e:Ending):Prop:=∃q cq V,VOk V∧e=.returned (.slice q m cq)∧IntsN U' r q m V∧U.grownBy U' (some r)∧Memo U' r H n
theorem work_of(mb r n m:Nat)(w:Int)(H:Nat->Int->Int)(VOk:(Nat->Int)->Prop)(ks:Nat->Nat)(kc:Nat->Nat)(kd a0 a1 a2 a3 a4 a5 a6 a7 a8 a9 b0 b1 up:Int)(tx:ByteArray)(p:Option Addr)(c:Nat)(U:World)
 (hk5:kd≠5) (hm:m≤1000) (h4:0≤a4∧a4≤1000000) (h5:0≤a5∧a5≤1000000) (h6:0≤a6∧a6≤1000000) (hhb:Hid (∀j v,j<m->0≤H (ks j) v∧H (ks j) v≤100000)) (hkk:Hid (∀j,j<m->ks j≤1000000)) (hr:r<U.heap.size)
 (hM:Hid (Memo U r H n)) (hK:Hid (IntsN U r p m (fun j=>(ks j:Int))))
 (KW:Hid (∀u,Below U.heap.size U u->Memo u r H n->Calls prog 159 #[Pq mb,ndA kd a0 a1 a2 a3 a4 a5 a6 a7 a8 a9 b0 b1 tx (.slice p m c) up,Iq w] u fun e u'=>KwOut u u' r m H VOk n e))
 (HKV:Hid (∀V,VOk V->∀j u nn,j<m->U.grownBy u (some r)->Memo u r H nn->nn≤n+cS kc j->Calls prog 81 #[Pq mb,Iq (ks j:Int),Iq (V j)] u fun e u'=>e=.returned (Iq (H (ks j) (V j)))∧Hid (u.grownBy u' (some r))∧Hid (Memo u' r H (n+cS kc (j+1))))):
 Calls prog 134 #[Pq mb,ndA kd a0 a1 a2 a3 a4 a5 a6 a7 a8 a9 b0 b1 tx (.slice p m c) up,Iq w] U fun e U'=>WkOut U U' r m kd a4 a5 a6 ks H VOk (n+cS kc m) e:=by
 have e5:(kd==5)=false:=by simpa using hk5
 obtain⟨ob,hob⟩:∃z:Obj,Obj.cells #[Iq kd,Iq a0,Iq a1,Iq a2,Iq a3,Iq a4,Iq a5,Iq a6,Iq a7,Iq a8,Iq a9,Iq b0,Iq b1,.string tx,.slice p m c,Iq up] 61=z:=⟨_,rfl⟩;obtain⟨U1,hU1⟩:=nmd (U.alloc (.cells #[Iq kd,Iq a0,Iq a1,Iq a2,Iq a3,Iq a4,Iq a5,Iq a6,Iq a7,Iq a8,Iq a9,Iq b0,Iq b1,.string tx,.slice p m c,Iq up] 61));obtain⟨A,hA⟩:=nmd U.heap.size;have hb1:Below U.heap.size U U1:=by rw[<-hU1];exact((Gr.refl U).alloc _).below
 have hat:U1.heap[A]?=some (.cells #[Iq kd,Iq a0,Iq a1,Iq a2,Iq a3,Iq a4,Iq a5,Iq a6,Iq a7,Iq a8,Iq a9,Iq b0,Iq b1,.string tx,.slice p m c,Iq up] 61 (0,0)):=by rw[<-hU1,<-hA];show(U.heap.push _)[U.heap.size]?=_;exact Array.getElem?_push_size
 have HAT:Hid (∀u,U1.grownBy u (some r)->∀t x,(#[Iq kd,Iq a0,Iq a1,Iq a2,Iq a3,Iq a4,Iq a5,Iq a6,Iq a7,Iq a8,Iq a9,Iq b0,Iq b1,.string tx,.slice p m c,Iq up]:Array Value)[t]?=some x->u.cell? ⟨A,t,none⟩=some x):=fun u hu t x ht=>by have hAl:=(Array.getElem?_eq_some_iff.1 hat).1;have:u.heap[A]?=U1.heap[A]?:=hu.block A hAl (fun e=>by simp at e;omega);rw[Lib.cell_of_heap (this.trans hat)];exact ht
 have HG1:Hid (U.grownBy U1 (some r)):=grown_of_below hb1;have HB1:=qH<|hb1;have z0:=HAT U1 (grown_of_below (Below.refl _ U1)) 0 _ rfl;have z1:=HAT U1 (grown_of_below (Below.refl _ U1)) 1 _ rfl;have z2:=HAT U1 (grown_of_below (Below.refl _ U1)) 2 _ rfl;have z3:=HAT U1 (grown_of_below (Below.refl _ U1)) 3 _ rfl;have z4:=HAT U1 (grown_of_below (Below.refl _ U1)) 4 _ rfl;have z5:=HAT U1 (grown_of_below (Below.refl _ U1)) 5 _ rfl;have z6:=HAT U1 (grown_of_below (Below.refl _ U1)) 6 _ rfl;have z7:=HAT U1 (grown_of_below (Below.refl _ U1)) 7 _ rfl;have z8:=HAT U1 (grown_of_below (Below.refl _ U1)) 8 _ rfl;have z9:=HAT U1 (grown_of_below (Below.refl _ U1)) 9 _ rfl;have z10:=HAT U1 (grown_of_below (Below.refl _ U1)) 10 _ rfl;have z11:=HAT U1 (grown_of_below (Below.refl _ U1)) 11 _ rfl;have z12:=HAT U1 (grown_of_below (Below.refl _ U1)) 12 _ rfl;have z13:=HAT U1 (grown_of_below (Below.refl _ U1)) 13 _ rfl;have z14:=HAT U1 (grown_of_below (Below.refl _ U1)) 14 _ rfl;have z15:=HAT U1 (grown_of_below (Below.refl _ U1)) 15 _ rfl;clear hb1 hat hob;unfold ndA at KW⊢;go_enter func134,ntmps134;go_wp2_with fail;refine(KW _ HB1 (hM.kept (grown_of_below (row:=none) HB1) (by simp))).mono ?_;rintro e U2 ⟨q,cq,V,hvk,rfl,hv,hg12,hm2⟩;have HVK:=qH<|hvk;have HV:=qH<|hv;have HG12:=qH<|hg12;have HG2:=qH<|HG1.trans HG12;have HM2:=qH<|hm2;have HK2:=qH<|hK.grown HG2;obtain⟨h,hh'⟩:∃h:Nat->Int,(fun j=>H (ks j) (V j))=h:=⟨_,rfl⟩;have hh:Hid (∀j,j<m->0≤h j∧h j≤100000):=by rw[<-hh'];exact fun j hj=>hhb j _ hj
 have HK:Hid (∀j u nn,j<m->U.grownBy u (some r)->Memo u r H nn->nn≤n+cS kc j->Calls prog 81 #[Pq mb,Iq (ks j:Int),Iq (V j)] u fun e u'=>e=.returned (Iq (h j))∧Hid (u.grownBy u' (some r))∧Hid (Memo u' r H (n+cS kc (j+1)))):=by rw[<-hh'];exact HKV V hvk
 have HOUT:Hid (∀e u,e=.returned (Iq (rawH kd a4 a5 a6 h m))->U.grownBy u (some r)->Memo u r H (n+cS kc m)->WkOut U u r m kd a4 a5 a6 ks H VOk (n+cS kc m) e):=fun e u h1 h2 h3=>⟨V,HVK,by rw[h1,<-hh'],h2,h3⟩;have z14':=HAT U2 HG12 14 _ rfl;clear z0 z1 z2 z3 z4 z5 z6 z7 z8 z9 z10 z11 z12 z13 z14 z15 KW hh' hvk hv hg12 hm2 HKV hhb;generalize hnv:Value.agg #[Iq kd,Iq a0,Iq a1,Iq a2,Iq a3,Iq a4,Iq a5,Iq a6,Iq a7,Iq a8,Iq a9,Iq b0,Iq b1,.string tx,.slice p m c,Iq up]=nv;go_wp2_with fail;go_loopw[7,8,26] (fun sv gv kv wr=>∃k:Nat,k≤m∧kv=Iq (k:Int)∧sv=Iq (hS h k)∧gv=Iq (hG h k)∧Hid (U2.grownBy wr (some r))∧Hid (Memo wr r H (n+cS kc k))) (fun _ _ kv _=>m-(intOf kv).toNat);case atStart=>exact⟨0,Nat.zero_le _,rfl,rfl,rfl,grown_of_below (Below.refl _ _),HM2⟩
 case round=>
  obtain⟨k,hk,rfl,rfl,rfl,HGR,HMR⟩:=hrel;by_cases hlt:k<m
  ·have hlt':(k:Int)<(m:Int):=by omega
   have hbs:=hS_bd hh k hk;have hbg:=hG_bd hh k hk;have hbh:=hh k hlt;have hkb:=hkk k hlt;obtain⟨kb,ko,rfl,_,_,hck⟩:=(HK2.grown HGR).resolve_left (by omega);obtain⟨vb,vo,rfl,_,_,hcv⟩:=(HV.grown HGR).resolve_left (by omega);have cv:=hcv k hlt;have HC:=qH<|HK k wr _ hlt (HG2.trans HGR) HMR (Nat.le_refl _);obtain⟨S,hS'⟩:=nmd (hS h k);obtain⟨G,hG'⟩:=nmd (hG h k);obtain⟨x,hx⟩:=nmd (h k);obtain⟨vv,hvv⟩:=nmd (V k);have ck:=hck k hlt;have HS1:Hid (hS h (k+1)=S+x):=by show _=_;rw[<-hS',<-hx];rfl
   have HG1:Hid (hG h (k+1)=max G x):=by show _=_;rw[<-hG',<-hx];rfl
   rw[hS']at hbs;rw[hG']at hbg;rw[hx]at hbh HC;rw[hvv]at HC;rw[hvv]at cv;rw[hS',hG'];have HBS:=qH<|hbs;have HBG:=qH<|hbg;have HBH:=qH<|hbh;clear hS' hG' hx hvv hck hcv hbs hbg hbh hkb hU1 hA z14' h4 h5 h6 hk5 hr;go_wp2_with(go_at_call 81;refine HC.mono ?_;rintro e wz ⟨rfl,HGz,HMz⟩;have hbs:=HBS.out;have hbg:=HBG.out;have hbh:=HBH.out);all_goals
    go_roundw;case rel=>exact⟨k+1,hlt,by go_num,by rw[HS1.out],by rw[HG1.out];exact congrArg (Value.int .i64) (by omega),HGR.trans HGz,HMz⟩
    case measure=>simp[intOf];omega
  ·have hlt':¬(k:Int)<(m:Int):=by omega
   obtain rfl:k=m:=by omega
   have HGW:=qH<|HG12.trans HGR;have y0:=HAT wr HGW 0 _ rfl;have y1:=HAT wr HGW 1 _ rfl;have y2:=HAT wr HGW 2 _ rfl;have y3:=HAT wr HGW 3 _ rfl;have y4:=HAT wr HGW 4 _ rfl;have y5:=HAT wr HGW 5 _ rfl;have y6:=HAT wr HGW 6 _ rfl;have y7:=HAT wr HGW 7 _ rfl;have y8:=HAT wr HGW 8 _ rfl;have y9:=HAT wr HGW 9 _ rfl;have y10:=HAT wr HGW 10 _ rfl;have y11:=HAT wr HGW 11 _ rfl;have y12:=HAT wr HGW 12 _ rfl;have y13:=HAT wr HGW 13 _ rfl;have y14:=HAT wr HGW 14 _ rfl;have y15:=HAT wr HGW 15 _ rfl;have hbs:=hS_bd hh k hk;have hbg:=hG_bd hh k hk;have GA:=qH<|fun u=>gaps_any kd a0 a1 a2 a3 a4 a5 a6 a7 a8 a9 b0 b1 up tx p k c h4 (by omega) u;have FA:=qH<|fun u=>frame_any kd a0 a1 a2 a3 a4 a5 a6 a7 a8 a9 b0 b1 up tx p k c h5 h6 u;have hgb:0≤gapI a4 k∧gapI a4 k≤1000000000000:=by
    unfold gapI;have hq1:0≤max 0 ((k:Int)-1)∧max 0 ((k:Int)-1)≤1000000:=by omega
    exact⟨Int.mul_nonneg h4.1 hq1.1,Int.mul_le_mul h4.2 hq1.2 hq1.1 (by omega)⟩
   have hfb:=frm_bd (kd:=kd) h5 h6;unfold ndA at GA FA;have HGE:Hid (∀u,Below wr.heap.size wr u->U.grownBy u (some r)):=fun u hu=>(HG2.trans HGR).trans (grown_of_below hu);have HME:Hid (∀u,Below wr.heap.size wr u->Memo u r H (n+cS kc k)):=fun u hu=>HMR.kept (grown_of_below (row:=none) hu) (by simp);clear hU1 hA hr hh hkk hM hK HK HV HK2 HAT HGR HMR HG2 HM2 HVK;rw[hnv]at GA FA;by_cases h1:kd=1
   ·subst h1;have hraw:rawH 1 a4 a5 a6 h k=hS h k+gapI a4 k:=by unfold rawH;rw[if_pos rfl]
    obtain⟨S,hS'⟩:=nmd (hS h k);obtain⟨gg,hgg⟩:=nmd (gapI a4 k);rw[hS',hgg]at hraw;have HRW:=qH<|hraw;rw[hS']at hbs⊢;rw[hgg]at hgb GA;clear hS' hgg hraw;go_wp2_with(go_at_call 79;refine(GA _).mono ?_;rintro e wz ⟨rfl,HBz⟩);go_ret;exact HOUT _ _ (by rw[HRW.out];rfl) (HGE _ HBz) (HME _ HBz)
   ·have hraw:rawH kd a4 a5 a6 h k=hG h k+2*frmI kd a5 a6:=by unfold rawH;rw[if_neg h1]
    have e1:(kd==1)=false:=by simpa using h1
    obtain⟨S,hS'⟩:=nmd (hG h k);obtain⟨gg,hgg⟩:=nmd (frmI kd a5 a6);rw[hS',hgg]at hraw;have HRW:=qH<|hraw;rw[hS']at hbg⊢;rw[hgg]at hfb FA;clear hS' hgg hraw;go_wp2_with(go_at_call 80;refine(FA _).mono ?_;rintro e wz ⟨rfl,HBz⟩);go_ret;exact HOUT _ _ (by rw[HRW.out];rfl) (HGE _ HBz) (HME _ HBz)
end
end Go.Proofs.YtmbefonnkkhfgaaGreatDoor
