import Derived.Test.YtmmaicpblnjdcaaGreatDoorB48
import Derived.Test.YtmmaicpblnjdcaaGreatDoorB42
import Derived.Test.YtmmaicpblnjdcaaGreatDoorB49
import Derived.Test.YtmmaicpblnjdcaaGreatDoorB34
import Derived.Test.YtmmaicpblnjdcaaGreatDoorB47
import Derived.Test.YtmmaicpblnjdcaaGreatDoorB32
set_option linter.unusedVariables false
set_option maxRecDepth 100000
set_option maxHeartbeats 16000000
namespace Go.Proofs.YtmmaicpblnjdcaaGreatDoor
section
section
variable {s : ByteArray} {L : List Nd} {Wd : Nat -> Int} {H : Nat -> Int -> Int} {w h : Int} {idf off : Nat -> Int} {sn : Nat} {P : Nat -> Nat -> Int}
theorem PlTo.scroll(hT:Tree s L)(hp:PlTo L Wd H w h idf off sn P L.length){i:Nat}(hi:i<L.length)(h4:(nth L i).kind=4) :
 (nth L i).kids.length=1∧0≤P i 8∧P i 8≤P i 9∧P (kdn (nth L i).kids 0) 0=P i 0∧P (kdn (nth L i).kids 0) 1=P i 1 - P i 8∧P (kdn (nth L i).kids 0) 2=P i 2∧P (kdn (nth L i).kids 0) 3=P i 3+P i 9∧(atN (nth L i) 0=0->P i 8=0):=by
 have hk1:(nth L i).kids.length=1:=by
  rcases hT.kidok i hi with q|⟨_,_,q⟩|⟨q,_⟩
  ·omega
  ·exact q
  ·omega
 obtain⟨r1,r2⟩:=hp.sc i hi hi h4
 obtain⟨R0,R1,R2,R3,hs,hk⟩:=hp.kr i hi hi
 obtain⟨e0,e1,e2,e3⟩:=hs.scr (by omega) 0 (by omega)
 have k0:=hk 0 (by omega) 0 (by omega)
 have k1:=hk 0 (by omega) 1 (by omega)
 have k2:=hk 0 (by omega) 2 (by omega)
 have k3:=hk 0 (by omega) 3 (by omega)
 have k0:P (kdn (nth L i).kids 0) 0=R0 0:=k0
 have k1:P (kdn (nth L i).kids 0) 1=R1 0:=k1
 have k2:P (kdn (nth L i).kids 0) 2=R2 0:=k2
 have k3:P (kdn (nth L i).kids 0) 3=R3 0:=k3
 have hr0:0≤P i 9:=by rw[r1];unfold z4x;omega
 refine⟨hk1,by omega,by omega,by omega,by omega,by omega,by omega,fun h0=>?_⟩
 have:offI (atN (nth L i) 0) idf off sn=0:=by unfold offI;rw[if_pos h0]
 omega
theorem zu5{x:Int}(h0:0≤x)(h1:x≤100000):cl x=x:=by unfold cl;rw[if_neg (by omega),if_neg (by omega)]
theorem PlTo.inRow(hT:Tree s L)(hp:PlTo L Wd H w h idf off sn P L.length){i:Nat}(hi:i<L.length)(h0:(nth L i).kind=0) :
 ∃G,((nth L i).kids=[]∨z1d L (nth L i).kids (fun j=>Wd (kdn (nth L i).kids j)) (P i 2) (atN (nth L i) 4) G)∧(∀j,j<(nth L i).kids.length->0≤G j∧G j≤100000)∧∀j,j<(nth L i).kids.length->P (kdn (nth L i).kids j) 0=P i 0+offs G (atN (nth L i) 4) j∧P (kdn (nth L i).kids j) 1=P i 1∧P (kdn (nth L i).kids j) 2=G j∧P (kdn (nth L i).kids j) 3=P i 3:=by
 obtain⟨R0,R1,R2,R3,hs,hk⟩:=hp.kr i hi hi
 obtain⟨G,g1,g2,g3⟩:=hs.row (by omega)
 have hb:=(hT.vl.nv i hi).bd.2.1
 rw[zu5 hb.1 (by omega)] at g3
 refine⟨G,g1,g2,fun j hj=>?_⟩
 obtain⟨e0,e1,e2,e3⟩:=g3 j hj
 have k0:P (kdn (nth L i).kids j) 0=R0 j:=hk j hj 0 (by omega)
 have k1:P (kdn (nth L i).kids j) 1=R1 j:=hk j hj 1 (by omega)
 have k2:P (kdn (nth L i).kids j) 2=R2 j:=hk j hj 2 (by omega)
 have k3:P (kdn (nth L i).kids j) 3=R3 j:=hk j hj 3 (by omega)
 rw[k0,k1,k2,k3]
 exact⟨e0,e1,e2,e3⟩
theorem PlTo.inCol(hT:Tree s L)(hp:PlTo L Wd H w h idf off sn P L.length){i:Nat}(hi:i<L.length)(h0:(nth L i).kind=1) :
 ∃G,(∀j,j<(nth L i).kids.length->0≤G j∧G j≤100000)∧∀j,j<(nth L i).kids.length->P (kdn (nth L i).kids j) 0=P i 0∧P (kdn (nth L i).kids j) 1=P i 1+offs G (atN (nth L i) 4) j∧P (kdn (nth L i).kids j) 2=P i 2∧P (kdn (nth L i).kids j) 3=G j:=by
 obtain⟨R0,R1,R2,R3,hs,hk⟩:=hp.kr i hi hi
 obtain⟨G,g1,g2,g3⟩:=hs.col (by omega)
 have hb:=(hT.vl.nv i hi).bd.2.1
 rw[zu5 hb.1 (by omega)] at g3
 refine⟨G,g2,fun j hj=>?_⟩
 obtain⟨e0,e1,e2,e3⟩:=g3 j hj
 have k0:P (kdn (nth L i).kids j) 0=R0 j:=hk j hj 0 (by omega)
 have k1:P (kdn (nth L i).kids j) 1=R1 j:=hk j hj 1 (by omega)
 have k2:P (kdn (nth L i).kids j) 2=R2 j:=hk j hj 2 (by omega)
 have k3:P (kdn (nth L i).kids j) 3=R3 j:=hk j hj 3 (by omega)
 rw[k0,k1,k2,k3]
 exact⟨e0,e1,e2,e3⟩
theorem zqd{f:Nat->Int}{l:List Nat}(hf:∀j∈l,0≤f j){k:Nat}(hk:k∈l):f k≤sumL f l:=by
 induction l with
 | nil=>cases hk
 | cons a l ih =>
  have h0:0≤f a:=hf a (by simp)
  have h1:0≤sumL f l:=z1b fun j hj=>hf j (by simp[hj])
  have e:sumL f (a::l)=f a+sumL f l:=rfl
  rcases List.mem_cons.1 hk with rfl|hk
  ·omega
  ·have:=ih (fun j hj=>hf j (by simp[hj])) hk
   omega
theorem znu{r S1 S2 S:Int}(h1:r≤S1∨r≤S2->S=r)(h2:S1<r->S2<r->S=S2):S≤r:=by
 by_cases a:r≤S1
 ·exact Int.le_of_eq (h1 (.inl a))
 ·by_cases b:r≤S2
  ·exact Int.le_of_eq (h1 (.inr b))
  ·have:=h2 (by omega) (by omega)
   omega
theorem z1d.tiles{L:List Nd}{ks:List Nat}{N:Nat->Int}{room gap:Int}{G:Nat->Int}(g1:z1d L ks N room gap G)(hk:0<ks.length) :
 sumL G (List.range ks.length)≤rm room gap ks.length∧((∃j,j<ks.length∧0<atN (nth L (kdn ks j)) 3∧atN (nth L (kdn ks j)) 2<0)->sumL G (List.range ks.length)=rm room gap ks.length):=by
 have hr:=zv4 room gap ks.length hk
 obtain⟨t1,t2,t3⟩:=z1n.tiles g1 (z3c _ _ _)
 refine⟨znu t2 t3,fun ⟨j,hj,q1,q2⟩=>t2 (.inr (Int.le_trans hr ?_))⟩
 have hcl:0<cl (atN (nth L (kdn ks j)) 3):=by unfold cl;split;omega;split <;> omega
 have hm:hMax (wMn (nth L (kdn ks j)) (N j)) (atN (nth L (kdn ks j)) 2)=100000:=by unfold hMax;rw[if_pos q2]
 refine Int.le_trans ?_ (zqd (k:=j) (fun x _=>?_) (List.mem_range.2 hj))
 ·show (100000:Int)≤if 0<cl (atN (nth L (kdn ks j)) 3) then hMax (wMn (nth L (kdn ks j)) (N j)) (atN (nth L (kdn ks j)) 2) else cl (wMn (nth L (kdn ks j)) (N j))
  rw[if_pos hcl,hm]
  exact Int.le_refl _
 ·have a1:=z7q (wMn (nth L (kdn ks x)) (N x)) (atN (nth L (kdn ks x)) 2)
  have a2:=z36 (wMn (nth L (kdn ks x)) (N x))
  show (0:Int)≤if 0<cl (atN (nth L (kdn ks x)) 3) then hMax (wMn (nth L (kdn ks x)) (N x)) (atN (nth L (kdn ks x)) 2) else cl (wMn (nth L (kdn ks x)) (N x))
  split <;> omega
theorem PlTo.tiles(hT:Tree s L)(hp:PlTo L Wd H w h idf off sn P L.length){i:Nat}(hi:i<L.length)(h0:(nth L i).kind=0)(hk:0<(nth L i).kids.length) :
 ∃G,(∀j,j<(nth L i).kids.length->0≤G j∧G j≤100000)∧(∀j,j<(nth L i).kids.length->P (kdn (nth L i).kids j) 2=G j)∧sumL G (List.range (nth L i).kids.length)≤rm (P i 2) (atN (nth L i) 4) (nth L i).kids.length∧((∃j,j<(nth L i).kids.length∧0<atN (nth L (kdn (nth L i).kids j)) 3∧atN (nth L (kdn (nth L i).kids j)) 2<0)->sumL G (List.range (nth L i).kids.length)=rm (P i 2) (atN (nth L i) 4) (nth L i).kids.length):=by
 obtain⟨G,g1,g2,g3⟩:=hp.inRow hT hi h0
 have g1:=g1.resolve_left (fun e=>by rw[e] at hk;cases hk)
 exact⟨G,g2,fun j hj=>(g3 j hj).2.2.1,g1.tiles hk⟩
def zeu(P:Nat->Nat->Int)(w h:Int)(i:Nat):Prop:=0≤P i 4∧0≤P i 5∧0≤P i 6∧0≤P i 7∧P i 4+P i 6≤w∧P i 5+P i 7≤h
def InsB(x y a b X Y A B:Int):Prop:=a≤0∨b≤0∨(X≤x∧Y≤y∧x+a≤X+A∧y+b≤Y+B)
theorem zkl{x y a b cx cy cw ch w h:Int}(hw:1≤w∧w≤400)(hh:1≤h∧h≤400)(ha:0≤a∧a≤100000)(hb:0≤b∧b≤100000)(hc:0≤cx∧0≤cy∧0≤cw∧0≤ch∧cx+cw≤w∧cy+ch≤h) :
 let c0:=cap0 x y a b cx cy cw ch
 let c1:=cap1 x y a b cx cy cw ch
 let c2:=cap2 x y a b cx cy cw ch
 let c3:=cap3 x y a b cx cy cw ch
 (0≤c0∧0≤c1∧0≤c2∧0≤c3∧c0+c2≤w∧c1+c3≤h)∧InsB c0 c1 c2 c3 x y a b∧InsB c0 c1 c2 c3 cx cy cw ch:=by
 dsimp only
 unfold cap0 cap1 cap2 cap3 InsB
 by_cases q:capL x a cx cw≥capR x a cx cw∨capL y b cy ch≥capR y b cy ch
 ·rw[if_pos q,if_pos q,if_pos q,if_pos q];omega
 ·rw[if_neg q,if_neg q,if_neg q,if_neg q]
  unfold capL capR posI lenI at *
  omega
theorem PlTo.onScr(hT:Tree s L)(hp:PlTo L Wd H w h idf off sn P L.length)(hw:1≤w∧w≤400)(hh:1≤h∧h≤400):∀n i,i<n->i<L.length->zeu P w h i
 | 0,i,h,_=>by omega
 | n+1,i,hn,hi=>by
  by_cases e:i=0
  ·subst e
   obtain⟨r0,r1,r2,r3,r4,r5,r6,r7⟩:=hp.root
   unfold zeu
   omega
  ·obtain⟨u,k,hu,hk,hc,hup⟩:=hT.kid_of i (by omega) hi
   have hu2:=PlTo.onScr hT hp hw hh n u (by omega) (by omega)
   obtain⟨R0,R1,R2,R3,hs,hkk⟩:=hp.kr u (by omega) (by omega)
   have hbi:=hp.bd i hi
   rw[<-hc] at hbi ⊢
   have k2:P (kdn (nth L u).kids k) 2=R2 k:=hkk k hk 2 (by omega)
   have k3:P (kdn (nth L u).kids k) 3=R3 k:=hkk k hk 3 (by omega)
   have k4:P (kdn (nth L u).kids k) 4=cap0 (R0 k) (R1 k) (R2 k) (R3 k) (P u 4) (P u 5) (P u 6) (P u 7):=hkk k hk 4 (by omega)
   have k5:P (kdn (nth L u).kids k) 5=cap1 (R0 k) (R1 k) (R2 k) (R3 k) (P u 4) (P u 5) (P u 6) (P u 7):=hkk k hk 5 (by omega)
   have k6:P (kdn (nth L u).kids k) 6=cap2 (R0 k) (R1 k) (R2 k) (R3 k) (P u 4) (P u 5) (P u 6) (P u 7):=hkk k hk 6 (by omega)
   have k7:P (kdn (nth L u).kids k) 7=cap3 (R0 k) (R1 k) (R2 k) (R3 k) (P u 4) (P u 5) (P u 6) (P u 7):=hkk k hk 7 (by omega)
   unfold zeu
   rw[k4,k5,k6,k7]
   exact (zkl hw hh (by omega) (by omega) hu2).1
theorem PlTo.clip(hT:Tree s L)(hp:PlTo L Wd H w h idf off sn P L.length)(hw:1≤w∧w≤400)(hh:1≤h∧h≤400){i:Nat}(hi:i<L.length)(h0:0<i) :
 ∃u:Nat,u<i∧(nth L i).up=(u:Int)∧InsB (P i 4) (P i 5) (P i 6) (P i 7) (P i 0) (P i 1) (P i 2) (P i 3)∧InsB (P i 4) (P i 5) (P i 6) (P i 7) (P u 4) (P u 5) (P u 6) (P u 7):=by
 obtain⟨u,k,hu,hk,hc,hup⟩:=hT.kid_of i h0 hi
 have hu2:=PlTo.onScr hT hp hw hh (u+1) u (by omega) (by omega)
 obtain⟨R0,R1,R2,R3,hs,hkk⟩:=hp.kr u (by omega) (by omega)
 have hbi:=hp.bd i hi
 refine⟨u,hu,hup,?_⟩
 rw[<-hc] at hbi ⊢
 have k0:P (kdn (nth L u).kids k) 0=R0 k:=hkk k hk 0 (by omega)
 have k1:P (kdn (nth L u).kids k) 1=R1 k:=hkk k hk 1 (by omega)
 have k2:P (kdn (nth L u).kids k) 2=R2 k:=hkk k hk 2 (by omega)
 have k3:P (kdn (nth L u).kids k) 3=R3 k:=hkk k hk 3 (by omega)
 have k4:P (kdn (nth L u).kids k) 4=cap0 (R0 k) (R1 k) (R2 k) (R3 k) (P u 4) (P u 5) (P u 6) (P u 7):=hkk k hk 4 (by omega)
 have k5:P (kdn (nth L u).kids k) 5=cap1 (R0 k) (R1 k) (R2 k) (R3 k) (P u 4) (P u 5) (P u 6) (P u 7):=hkk k hk 5 (by omega)
 have k6:P (kdn (nth L u).kids k) 6=cap2 (R0 k) (R1 k) (R2 k) (R3 k) (P u 4) (P u 5) (P u 6) (P u 7):=hkk k hk 6 (by omega)
 have k7:P (kdn (nth L u).kids k) 7=cap3 (R0 k) (R1 k) (R2 k) (R3 k) (P u 4) (P u 5) (P u 6) (P u 7):=hkk k hk 7 (by omega)
 rw[k4,k5,k6,k7,k0,k1,k2,k3]
 exact (zkl hw hh (by omega) (by omega) hu2).2
end
end
section
open Go.RowKit Go.Sort
def zvm(U U':World)(w h:Int)(idf off:Nat->Int)(sn:Nat)(r:Except (Option (Nat×Nat)) (List Nd))(e:Ending):Prop:=Below U.heap.size U U'∧match r with
 | .error x=>e=.returned (.tuple #[.slice none 0 0,.int .i64 (errC x:Int),.int .i64 (errP x:Int)])
 | .ok L=>(¬(1≤w∧w≤400∧1≤h∧h≤400)∧e=.returned (.tuple #[.slice none 0 0,.int .i64 6,.int .i64 0]))∨((1≤w∧w≤400∧1≤h∧h≤400)∧∃pb P Wd H,Sz L Wd H∧e=.returned (.tuple #[.slice (some ⟨pb,0,none⟩) L.length L.length,.int .i64 0,.int .i64 0])∧U'.rowIs pb 32 (L.length*10) (pcF P)∧PlTo L Wd H w h idf off sn P L.length∧U.heap.size≤pb)
def LyAt(U U':World)(w h:Int)(idf off:Nat->Int)(sn:Nat)(Wd:Nat->Int)(H:Nat->Int->Int)(r:Except (Option (Nat×Nat)) (List Nd))(e:Ending):Prop:=Below U.heap.size U U'∧match r with
 | .error x=>e=.returned (.tuple #[.slice none 0 0,.int .i64 (errC x:Int),.int .i64 (errP x:Int)])
 | .ok L=>(¬(1≤w∧w≤400∧1≤h∧h≤400)∧e=.returned (.tuple #[.slice none 0 0,.int .i64 6,.int .i64 0]))∨((1≤w∧w≤400∧1≤h∧h≤400)∧∃pb P,e=.returned (.tuple #[.slice (some ⟨pb,0,none⟩) L.length L.length,.int .i64 0,.int .i64 0])∧U'.rowIs pb 32 (L.length*10) (pcF P)∧PlTo L Wd H w h idf off sn P L.length∧U.heap.size≤pb)
theorem znt(t:ByteArray):∃Wd H,∀L,z17 t=.ok L->Sz L Wd H:=by
 cases hp:z17 t with
 | error x=>exact⟨fun _=>0,fun _ _=>0,fun L q=>by cases q⟩
 | ok L =>
  obtain⟨Wd,H,hS⟩:=zw3 (z45 (z2o hp)).nest
  exact⟨Wd,H,fun L' q=>by cases q;exact hS⟩
theorem zdy(t:ByteArray)(w h:Int)(sp:Option Addr)(sn sc:Nat)(idf off:Nat->Int)(E:Nat->Addr)(U:World)(hG:Glo U E)(hA:z2w U E)(hE:ErT U)(ht:z0z U)(hsc:Scr U sp sn idf off)(hsn:sn≤4611686018427387904)(hsp:∀a:Addr,sp=some a->a.block<U.heap.size)(Wd:Nat->Int)(H:Nat->Int->Int)(hSz:∀L,z17 t=.ok L->Sz L Wd H) :
 Calls Tryz.prog 13 #[.string t,.int .i64 w,.int .i64 h,.slice sp sn sc] U fun e U'=>LyAt U U' w h idf off sn Wd H (z17 t) e:=by
 have HSz:Hid (∀L,z17 t=.ok L->Sz L Wd H):=hSz
 clear hSz
 have TP:Hid (Calls Tryz.prog 12 #[.string t] U fun e w'=>zrl U w' e (z17 t)):=zbg t E U hG hA hE
 have SD:Hid (∀n u,Calls Tryz.prog 24 #[.int .i64 n] u fun e w'=>e=.returned (.bool (decide (1≤n∧n≤400)))∧w'=u):=ziv
 have HT:Hid (z0z U∧Scr U sp sn idf off):=⟨ht,hsc⟩
 clear hG hA hE ht hsc
 go_enter Tryz.func13,Tryz.ntmps13
 go_wp2_with fail
 refine TP.out.mono ?_
 rintro e U1 ⟨hb1,hr⟩
 have HB1:Hid (Below U.heap.size U U1):=hb1
 clear hb1 TP
 cases hp:z17 t with
 | error x =>
  rw[hp] at hr
  subst hr
  have hx:(errC x:Int)≠0:=by have:=zf7 hp;omega
  have hx2:((errC x:Int) != 0)=true:=by simpa using hx
  have HPP:Hid (z17 t=.error x):=hp
  obtain⟨c,hc⟩:∃z:Int,(errC x:Int)=z:=⟨_,rfl⟩
  have HCE:Hid ((errC x:Int)=c):=hc
  rw[hc] at hx hx2 ⊢
  clear hp hc
  go_wp2
  refine bodyPost_ret (results_tmp3 rfl _ _ _) rfl ?_
  rw[HPP.out]
  exact⟨HB1.out,by show _=_;rw[HCE.out];rfl⟩
 | ok L =>
  rw[hp] at hr
  obtain⟨nv,KV,rfl,hn⟩:=hr
  have hT:Tree t L:=z45 (z2o hp)
  have hS:=HSz.out L hp
  have hpos:=hT.pos
  obtain⟨g,cap,rfl⟩:∃g cap,nv=.slice (some ⟨g,0,none⟩) L.length cap:=by
   obtain⟨xs,hx⟩:=hn.nr.row
   rcases z2t hx with ⟨_,h0⟩|⟨g,cap,e,_⟩
   ·omega
   ·exact⟨g,cap,e⟩
  have HN:Hid (PN U1 U.heap.size (.slice (some ⟨g,0,none⟩) L.length cap) L KV):=hn
  have HPP:Hid (z17 t=.ok L):=hp
  clear hn hp
  by_cases hw:1≤w∧w≤400
  ·by_cases hh:1≤h∧h≤400
   ·have S1:Hid (∀u,Calls Tryz.prog 24 #[.int .i64 w] u fun e w'=>e=.returned (.bool true)∧w'=u):=fun u=>by have:=SD.out w u;rw[decide_eq_true hw] at this;exact this
    have S2:Hid (∀u,Calls Tryz.prog 24 #[.int .i64 h] u fun e w'=>e=.returned (.bool true)∧w'=u):=fun u=>by have:=SD.out h u;rw[decide_eq_true hh] at this;exact this
    have NM:Hid (Calls Tryz.prog 25 #[.slice (some ⟨g,0,none⟩) L.length cap] U1 fun e u'=>∃mb r wb,e=.returned (.pointer (some ⟨mb,0,none⟩))∧Hid (Below U1.heap.size U1 u'∧Hs u' mb r g cap wb L KV Wd H 0∧U1.heap.size≤r)):=by
     refine (zao g cap hT hS U1 _ HN.out (HT.out.1.below HB1.out)).mono ?_
     rintro e u' ⟨mb,r,wb,h1,h2,h3,h4⟩
     exact⟨mb,r,wb,h1,h2,h3,h4⟩
    have PL:Hid (∀u mb r wb,Below U1.heap.size U1 u->Hs u mb r g cap wb L KV Wd H 0->Calls Tryz.prog 26 #[.pointer (some ⟨mb,0,none⟩),.int .i64 w,.int .i64 h,.slice sp sn sc] u fun e u'=>∃pb,e=.returned (.slice (some ⟨pb,0,none⟩) L.length L.length)∧Hid (∃P,u'.rowIs pb 32 (L.length*10) (pcF P)∧PlTo L Wd H w h idf off sn P L.length∧u.grownBy u' (some r)∧u.heap.size≤pb)):=fun u mb r wb hu hHs=>by
     have hbu:=HB1.out.trans (hu.mono HB1.out.size)
     refine (zjc mb r g cap wb hT hS w h sp sn sc idf off u hHs hw hh (HT.out.2.below hbu) hsn (fun a e=>Nat.lt_of_lt_of_le (hsp a e) hbu.size)).mono ?_
     rintro e u' ⟨pb,P,h1,h2,h3,h4,h5⟩
     exact⟨pb,h1,P,h2,h3,h4,h5⟩
    clear SD HT
    go_wp2_with (first|(go_at_call 24;(with_reducible refine Calls.mono (S1.out _) ?_);rintro e u5 ⟨rfl,h5⟩;obtain rfl:=h5.symm)|(go_at_call 24;(with_reducible refine Calls.mono (S2.out _) ?_);rintro e u5 ⟨rfl,h5⟩;obtain rfl:=h5.symm)|(go_at_call 25;refine Calls.mono NM.out ?_;rintro e u6 ⟨mb,r,wb,rfl,HH⟩)|(go_at_call 26;refine Calls.mono (PL.out _ _ _ _ HH.out.1 HH.out.2.1) ?_;rintro e u7 ⟨pb,rfl,HZ⟩))
    all_goals
     refine bodyPost_ret (results_tmp3 rfl _ _ _) rfl ?_
     rw[HPP.out]
     obtain⟨P,z1,z2,z3,z4⟩:=HZ.out
     obtain⟨q1,q2,q3⟩:=HH.out
     have hb1:=HB1.out
     have hb6:=hb1.trans (q1.mono hb1.size)
     have hle:=hb1.size
     have hle6:=hb6.size
     refine⟨hb6.grown z3 hle6 (fun k hk=>by injection hk with hk;omega),?_⟩
     exact .inr ⟨⟨hw.1,hw.2,hh.1,hh.2⟩,pb,P,rfl,z1,z2,by omega⟩
   ·have S1:Hid (∀u,Calls Tryz.prog 24 #[.int .i64 w] u fun e w'=>e=.returned (.bool true)∧w'=u):=fun u=>by have:=SD.out w u;rw[decide_eq_true hw] at this;exact this
    have S2:Hid (∀u,Calls Tryz.prog 24 #[.int .i64 h] u fun e w'=>e=.returned (.bool false)∧w'=u):=fun u=>by have:=SD.out h u;rw[decide_eq_false hh] at this;exact this
    clear SD HT HN
    go_wp2_with (first|(go_at_call 24;(with_reducible refine Calls.mono (S1.out _) ?_);rintro e u5 ⟨rfl,h5⟩;obtain rfl:=h5.symm)|(go_at_call 24;(with_reducible refine Calls.mono (S2.out _) ?_);rintro e u5 ⟨rfl,h5⟩;obtain rfl:=h5.symm))
    all_goals
     refine bodyPost_ret (results_tmp3 rfl _ _ _) rfl ?_
     rw[HPP.out]
     exact⟨HB1.out,.inl ⟨fun q=>hh ⟨q.2.2.1,q.2.2.2⟩,rfl⟩⟩
  ·have S1:Hid (∀u,Calls Tryz.prog 24 #[.int .i64 w] u fun e w'=>e=.returned (.bool false)∧w'=u):=fun u=>by have:=SD.out w u;rw[decide_eq_false hw] at this;exact this
   clear SD HT HN
   go_wp2_with (go_at_call 24;refine Calls.mono (S1.out _) ?_;rintro e u5 ⟨rfl,h5⟩;obtain rfl:=h5.symm)
   all_goals
    refine bodyPost_ret (results_tmp3 rfl _ _ _) rfl ?_
    rw[HPP.out]
    exact⟨HB1.out,.inl ⟨fun q=>hw ⟨q.1,q.2.1⟩,rfl⟩⟩
end
section
open Go.RowKit Go.Sort
theorem zpo(n:Int)(w:World):Calls Tryz.prog 15 #[.int .i64 n] w fun e w'=>e=.returned (.int .i64 n)∧w'=w:=by
 go_enter Tryz.func15,Tryz.ntmps15
 go_wp2
 go_ret
 exact⟨rfl,rfl⟩
def z2h(t:ByteArray)(w h:Int):Prop:=∃L,z17 t=.ok L∧1≤w∧w≤400∧1≤h∧h≤400
def z4v(t:ByteArray)(w h:Int):Bool:=match z17 t with
 | .ok _=>decide (1≤w∧w≤400∧1≤h∧h≤400)
 | .error _=>false
theorem z48{t:ByteArray}{w h:Int}(q:z2h t w h):z4v t w h=true:=by
 obtain⟨L,hp,q⟩:=q
 unfold z4v
 rw[hp]
 exact decide_eq_true q
theorem z47{t:ByteArray}{w h:Int}(q:¬z2h t w h):z4v t w h=false:=by
 unfold z4v
 cases hp:z17 t with
 | error x=>rfl
 | ok L=>exact decide_eq_false (fun z=>q ⟨L,hp,z⟩)
theorem z7a(t:ByteArray)(w h:Int)(U:World):Calls Tryz.prog 7 #[.string t,.int .i64 w,.int .i64 h] U fun e U'=>e=.returned (.bool (z4v t w h))∧Below U.heap.size U U':=by
 have RP:Hid (Calls Tryz.prog 11 #[.string t] U fun e w'=>zev U w' e (z3t t)):=zjl t U
 cases hp:z17 t with
 | error x =>
  have hx:(errC x:Int)≠0:=by have:=zf7 hp;omega
  have HF:Hid (z4v t w h=false):=z47 (fun ⟨L,q,_⟩=>by rw[hp] at q;cases q)
  rw[zea hp] at RP
  obtain⟨c,hc⟩:∃z:Int,(errC x:Int)=z:=⟨_,rfl⟩
  obtain⟨d,hd⟩:∃z:Int,(errP x:Int)=z:=⟨_,rfl⟩
  have RP2:Hid (Calls Tryz.prog 11 #[.string t] U fun e w'=>e=.returned (.tuple #[.slice none 0 0,.int .i64 c,.int .i64 d])∧Hid (Below U.heap.size U w')):=RP.out.mono fun e w' q=>⟨by have:=q.2;dsimp only at this;rw[hc,hd] at this;exact this,q.1⟩
  rw[hc] at hx
  clear RP hp hc hd
  go_enter Tryz.func7,Tryz.ntmps7
  go_wp2_with (go_at_call 11;refine RP2.out.mono ?_;rintro e U1 ⟨rfl,HB⟩)
  all_goals
   go_ret
   exact⟨by rw[HF.out];rfl,HB.out⟩
 | ok L =>
  rw[z2o hp] at RP
  have HY:Hid ((1≤w∧w≤400∧1≤h∧h≤400)->z4v t w h=true):=fun q=>z48 ⟨L,hp,q⟩
  have HN:Hid (¬(1≤w∧w≤400∧1≤h∧h≤400)->z4v t w h=false):=fun q=>z47 (fun ⟨_,_,z⟩=>q z)
  have RP2:Hid (Calls Tryz.prog 11 #[.string t] U fun e w'=>∃nv,e=.returned (.tuple #[nv,.int .i64 0,.int .i64 0])∧Hid (Below U.heap.size U w')):=RP.out.mono fun e w' q=>by
   obtain⟨h1,nv,_,_,h2,_⟩:=q
   exact⟨nv,h2,h1⟩
  clear RP hp
  go_enter Tryz.func7,Tryz.ntmps7
  go_wp2_with (go_at_call 11;refine RP2.out.mono ?_;rintro e U1 ⟨nv,rfl,HB⟩;by_cases h1:1≤w;by_cases h2:w≤400;by_cases h3:1≤h;by_cases h4:h≤400)
  all_goals
   go_ret
   first
    | exact⟨by rw[HY.out (by omega)];rfl,HB.out⟩
    | exact⟨by rw[HN.out (by omega)];rfl,HB.out⟩
    | exact⟨by rw[HY.out (by omega)];exact congrArg (fun z=>Ending.returned (Value.bool z)) (decide_eq_true (by omega)),HB.out⟩
    | exact⟨by rw[HN.out (by omega)];exact congrArg (fun z=>Ending.returned (Value.bool z)) (decide_eq_false (by omega)),HB.out⟩
end
section
open Go.RowKit Go.Sort
def zvl(U U':World)(t:ByteArray)(w h:Int)(idf off:Nat->Int)(sn:Nat)(e:Ending):Prop:=Below U.heap.size U U'∧((¬z2h t w h∧∃a b,e=.returned (.tuple #[a,b,.bool false]))∨(z2h t w h∧∃L g cap KV pb P Wd H,z17 t=.ok L∧Sz L Wd H∧e=.returned (.tuple #[.slice (some ⟨g,0,none⟩) L.length cap,.slice (some ⟨pb,0,none⟩) L.length L.length,.bool true])∧PN U' U.heap.size (.slice (some ⟨g,0,none⟩) L.length cap) L KV∧U'.rowIs pb 32 (L.length*10) (pcF P)∧PlTo L Wd H w h idf off sn P L.length))
def LdAt(U U':World)(t:ByteArray)(w h:Int)(idf off:Nat->Int)(sn:Nat)(Wd:Nat->Int)(H:Nat->Int->Int)(e:Ending):Prop:=Below U.heap.size U U'∧((¬z2h t w h∧∃a b,e=.returned (.tuple #[a,b,.bool false]))∨(z2h t w h∧∃L g cap KV pb P,z17 t=.ok L∧e=.returned (.tuple #[.slice (some ⟨g,0,none⟩) L.length cap,.slice (some ⟨pb,0,none⟩) L.length L.length,.bool true])∧PN U' U.heap.size (.slice (some ⟨g,0,none⟩) L.length cap) L KV∧U'.rowIs pb 32 (L.length*10) (pcF P)∧PlTo L Wd H w h idf off sn P L.length))
theorem zmc(t:ByteArray)(w h:Int)(sp:Option Addr)(sn sc:Nat)(idf off:Nat->Int)(E:Nat->Addr)(U:World)(hG:Glo U E)(hA:z2w U E)(hE:ErT U)(ht:z0z U)(hsc:Scr U sp sn idf off)(hsn:sn≤8796093022208)(Wd:Nat->Int)(H:Nat->Int->Int)(hSz:∀L,z17 t=.ok L->Sz L Wd H) :
 Calls Tryz.prog 8 #[.string t,.int .i64 w,.int .i64 h,.slice sp sn sc] U fun e U'=>LdAt U U' t w h idf off sn Wd H e:=by
 have TP:Hid (Calls Tryz.prog 12 #[.string t] U fun e w'=>zrl U w' e (z17 t)):=zbg t E U hG hA hE
 have NU:Hid (∀n u,Calls Tryz.prog 15 #[.int .i64 n] u fun e w'=>e=.returned (.int .i64 n)∧w'=u):=zpo
 have SC:Hid (∀u,Below U.heap.size U u->Calls Tryz.prog 14 #[.slice sp sn sc] u fun e u'=>∃p c,e=.returned (.slice p sn c)∧Hid (Scr u' p sn idf off∧(∀a:Addr,p=some a->a.block<u'.heap.size)∧Below u.heap.size u u')):=fun u hu=>(zg3 sp sn sc idf off u (hsc.below hu) hsn).mono (by
  rintro e u' ⟨p,c,h1,h2,h3,h4⟩
  exact⟨p,c,h1,h2,fun a e=>(h3 a e).2,h4⟩)
 have LY:Hid (∀u p c,Below U.heap.size U u->Scr u p sn idf off->(∀a:Addr,p=some a->a.block<u.heap.size)->Calls Tryz.prog 13 #[.string t,.int .i64 w,.int .i64 h,.slice p sn c] u fun e u'=>LyAt u u' w h idf off sn Wd H (z17 t) e):=fun u p c hu h1 h2=>zdy t w h p sn c idf off E u (hG.cells hu) (hA.below hu) (hE.below hu) (ht.below hu) h1 (by omega) h2 Wd H hSz
 clear hG hA hE ht hsc hSz
 cases hp:z17 t with
 | error x =>
  rw[hp] at TP LY
  have hx:(errC x:Int)≠0:=by have:=zf7 hp;omega
  have HF:Hid (¬z2h t w h):=fun ⟨L,q,_⟩=>by rw[hp] at q;cases q
  obtain⟨c,hc⟩:∃z:Int,(errC x:Int)=z:=⟨_,rfl⟩
  obtain⟨d,hd⟩:∃z:Int,(errP x:Int)=z:=⟨_,rfl⟩
  have TP2:Hid (Calls Tryz.prog 12 #[.string t] U fun e w'=>e=.returned (.tuple #[.slice none 0 0,.int .i64 c,.int .i64 d])∧Hid (Below U.heap.size U w')):=TP.out.mono fun e w' q=>⟨by have:=q.2;dsimp only at this;rw[hc,hd] at this;exact this,q.1⟩
  have LY2:Hid (∀u p cc,Below U.heap.size U u->Scr u p sn idf off->(∀a:Addr,p=some a->a.block<u.heap.size)->Calls Tryz.prog 13 #[.string t,.int .i64 w,.int .i64 h,.slice p sn cc] u fun e u'=>e=.returned (.tuple #[.slice none 0 0,.int .i64 c,.int .i64 d])∧Hid (Below u.heap.size u u')):=fun u p cc a1 a2 a3=>(LY.out u p cc a1 a2 a3).mono fun e w' q=>⟨by have:=q.2;dsimp only at this;rw[hc,hd] at this;exact this,q.1⟩
  rw[hc] at hx
  clear TP LY hp hc hd
  go_enter Tryz.func8,Tryz.ntmps8
  go_wp2_with (first|(go_at_call 12;refine TP2.out.mono ?_;rintro e U1 ⟨rfl,HB1⟩)|(go_at_call 14;refine (SC.out _ HB1.out).mono ?_;rintro e U2 ⟨p2,c2,rfl,HB2⟩)|(go_at_call 13;refine (LY2.out _ _ _ (HB1.out.trans (HB2.out.2.2.mono HB1.out.size)) HB2.out.1 HB2.out.2.1).mono ?_;rintro e U3 ⟨rfl,HB3⟩)|(go_at_call 15;(with_reducible refine Calls.mono (NU.out _ _) ?_);rintro e u5 ⟨rfl,h5⟩;obtain rfl:=h5.symm))
  all_goals
   refine bodyPost_ret (results_tmp3 rfl _ _ _) rfl ?_
   have b2:=HB1.out.trans (HB2.out.2.2.mono HB1.out.size)
   exact⟨b2.trans (HB3.out.mono b2.size),.inl ⟨HF.out,_,_,rfl⟩⟩
 | ok L =>
  rw[hp] at TP LY
  have hT:Tree t L:=z45 (z2o hp)
  have hpos:=hT.pos
  have hpos':(0:Int)<(L.length:Int):=by omega
  have HPP:Hid (z17 t=.ok L):=hp
  have TP2:Hid (Calls Tryz.prog 12 #[.string t] U fun e w'=>∃g cap KV,e=.returned (.tuple #[.slice (some ⟨g,0,none⟩) L.length cap,.int .i64 0,.int .i64 0])∧Hid (PN w' U.heap.size (.slice (some ⟨g,0,none⟩) L.length cap) L KV)∧Hid (Below U.heap.size U w')):=TP.out.mono fun e w' q=>by
   obtain⟨hb,nv,KV,rfl,hn⟩:=q
   obtain⟨g,cap,rfl⟩:∃g cap,nv=.slice (some ⟨g,0,none⟩) L.length cap:=by
    obtain⟨xs,hx⟩:=hn.nr.row
    rcases z2t hx with ⟨_,h0⟩|⟨g,cap,e,_⟩
    ·omega
    ·exact⟨g,cap,e⟩
   exact⟨g,cap,KV,rfl,hn,hb⟩
  by_cases hr:1≤w∧w≤400∧1≤h∧h≤400
  ·have HF:Hid (z2h t w h):=⟨L,hp,hr⟩
   have LY2:Hid (∀u p cc,Below U.heap.size U u->Scr u p sn idf off->(∀a:Addr,p=some a->a.block<u.heap.size)->Calls Tryz.prog 13 #[.string t,.int .i64 w,.int .i64 h,.slice p sn cc] u fun e u'=>∃pb,e=.returned (.tuple #[.slice (some ⟨pb,0,none⟩) L.length L.length,.int .i64 0,.int .i64 0])∧Hid (Below u.heap.size u u'∧∃P,u'.rowIs pb 32 (L.length*10) (pcF P)∧PlTo L Wd H w h idf off sn P L.length)):=fun u p cc a1 a2 a3=>(LY.out u p cc a1 a2 a3).mono fun e w' q=>by
    obtain⟨hb,q⟩:=q
    rcases q with ⟨q,_⟩|⟨_,pb,P,q2,q3,q4,_⟩
    ·exact absurd hr q
    ·exact⟨pb,q2,hb,P,q3,q4⟩
   clear TP LY hp hr
   go_enter Tryz.func8,Tryz.ntmps8
   go_wp2_with (first|(go_at_call 12;refine TP2.out.mono ?_;rintro e U1 ⟨g,cap,KV,rfl,HPN,HB1⟩)|(go_at_call 14;refine (SC.out _ HB1.out).mono ?_;rintro e U2 ⟨p2,c2,rfl,HB2⟩)|(go_at_call 13;refine (LY2.out _ _ _ (HB1.out.trans (HB2.out.2.2.mono HB1.out.size)) HB2.out.1 HB2.out.2.1).mono ?_;rintro e U3 ⟨pb,rfl,HB3⟩)|(go_at_call 15;(with_reducible refine Calls.mono (NU.out _ _) ?_);rintro e u5 ⟨rfl,h5⟩;obtain rfl:=h5.symm))
   all_goals
    refine bodyPost_ret (results_tmp3 rfl _ _ _) rfl ?_
    have b2:=HB1.out.trans (HB2.out.2.2.mono HB1.out.size)
    obtain⟨b3,P,z2,z3⟩:=HB3.out
    have hn:=(HPN.out.up (Up.below HB2.out.2.2)).up (Up.below b3)
    exact⟨b2.trans (b3.mono b2.size),.inr ⟨HF.out,L,g,cap,KV,pb,P,HPP.out,by simp,hn,z2,z3⟩⟩
  ·have HF:Hid (¬z2h t w h):=fun ⟨_,_,q⟩=>hr q
   have LY2:Hid (∀u p cc,Below U.heap.size U u->Scr u p sn idf off->(∀a:Addr,p=some a->a.block<u.heap.size)->Calls Tryz.prog 13 #[.string t,.int .i64 w,.int .i64 h,.slice p sn cc] u fun e u'=>e=.returned (.tuple #[.slice none 0 0,.int .i64 6,.int .i64 0])∧Hid (Below u.heap.size u u')):=fun u p cc a1 a2 a3=>(LY.out u p cc a1 a2 a3).mono fun e w' q=>by
    obtain⟨hb,q⟩:=q
    rcases q with ⟨_,q⟩|⟨q,_⟩
    ·exact⟨q,hb⟩
    ·exact absurd q hr
   clear TP LY hp hr
   go_enter Tryz.func8,Tryz.ntmps8
   go_wp2_with (first|(go_at_call 12;refine TP2.out.mono ?_;rintro e U1 ⟨g,cap,KV,rfl,HPN,HB1⟩)|(go_at_call 14;refine (SC.out _ HB1.out).mono ?_;rintro e U2 ⟨p2,c2,rfl,HB2⟩)|(go_at_call 13;refine (LY2.out _ _ _ (HB1.out.trans (HB2.out.2.2.mono HB1.out.size)) HB2.out.1 HB2.out.2.1).mono ?_;rintro e U3 ⟨rfl,HB3⟩)|(go_at_call 15;(with_reducible refine Calls.mono (NU.out _ _) ?_);rintro e u5 ⟨rfl,h5⟩;obtain rfl:=h5.symm))
   all_goals
    refine bodyPost_ret (results_tmp3 rfl _ _ _) rfl ?_
    have b2:=HB1.out.trans (HB2.out.2.2.mono HB1.out.size)
    exact⟨b2.trans (HB3.out.mono b2.size),.inl ⟨HF.out,_,_,rfl⟩⟩
theorem zh3(t:ByteArray)(w h:Int)(sp:Option Addr)(sn sc:Nat)(idf off:Nat->Int)(E:Nat->Addr)(U:World)(hG:Glo U E)(hA:z2w U E)(hE:ErT U)(ht:z0z U)(hsc:Scr U sp sn idf off)(hsn:sn≤8796093022208) :
 Calls Tryz.prog 8 #[.string t,.int .i64 w,.int .i64 h,.slice sp sn sc] U fun e U'=>zvl U U' t w h idf off sn e:=by
 obtain⟨Wd,H,hS⟩:=znt t
 refine (zmc t w h sp sn sc idf off E U hG hA hE ht hsc hsn Wd H hS).mono ?_
 rintro e U' ⟨hb,q⟩
 refine⟨hb,?_⟩
 rcases q with q|⟨q1,L,g,cap,KV,pb,P,q2,q3,q4,q5,q6⟩
 ·exact .inl q
 ·exact .inr ⟨q1,L,g,cap,KV,pb,P,Wd,H,q2,hS L q2,q3,q4,q5,q6⟩
end
section
open Go.RowKit Go.Sort
theorem z0k{U U':World}(hb:Below U.heap.size U U'){a:Addr}{v:Value}(h:U.cell? a=some v):U'.cell? a=some v :=
 (World.cell?_of_block (hb.block a.block (World.block_lt_of_cell? U a h))).trans h
theorem zn8{W:World}{p:Option Addr}{idf off:Nat->Int}:Scr W p 0 idf off:=.inl rfl
structure NP(U:World)(g pb:Nat)(L:List Nd)(KV:Nat->Value)(P:Nat->Nat->Int):Prop where
 len:∀j,j<L.length->(nth L j).attr.length=12
 nd:∀j,j<L.length->∀ (t:Nat) x,(z0m (nth L j) (KV j))[t]?=some x->U.cell? ⟨g,j*16+t,none⟩=some x
 kid:∀j,j<L.length->∃p c,KV j=.slice p (nth L j).kids.length c∧((nth L j).kids.length=0∨∃b o,p=some ⟨b,o,none⟩∧∀t,t<(nth L j).kids.length->U.cell? ⟨b,o+t,none⟩=some (.int .i64 (kdn (nth L j).kids t:Int)))
 pl:∀c t,c<L.length->t<10->U.cell? ⟨pb,c*10+t,none⟩=some (.int .i64 (P c t))
theorem NP.below{U U':World}{g pb:Nat}{L:List Nd}{KV:Nat->Value}{P:Nat->Nat->Int}(h:NP U g pb L KV P)(hb:Below U.heap.size U U'):NP U' g pb L KV P:=by
 refine⟨h.len,fun j hj t x ht=>z0k hb (h.nd j hj t x ht),fun j hj=>?_,fun c t hc ht=>z0k hb (h.pl c t hc ht)⟩
 obtain⟨p,c,e,hk⟩:=h.kid j hj
 refine⟨p,c,e,?_⟩
 rcases hk with hk|⟨b,o,e2,hk⟩
 ·exact .inl hk
 ·exact .inr ⟨b,o,e2,fun t ht=>z0k hb (hk t ht)⟩
theorem NP.of{U:World}{B g cap pb:Nat}{L:List Nd}{KV:Nat->Value}{P:Nat->Nat->Int}{T:TypeId}(h:PN U B (.slice (some ⟨g,0,none⟩) L.length cap) L KV)(hr:U.rowIs pb T (L.length*10) (pcF P)):NP U g pb L KV P:=by
 have hv:=h.ndv (r:=U.heap.size) (Nat.le_refl _)
 refine⟨hv.len,hv.nd,fun j hj=>?_,fun c t hc ht=>z0x hr hc ht⟩
 obtain⟨p,c,e,hk⟩:=hv.kid j hj
 refine⟨p,c,e,?_⟩
 rcases hk with hk|⟨b,o,e2,_,_,hk⟩
 ·exact .inl hk
 ·exact .inr ⟨b,o,e2,hk⟩
theorem NP.node{U:World}{g pb:Nat}{L:List Nd}{KV:Nat->Value}{P:Nat->Nat->Int}(h:NP U g pb L KV P){j:Nat}(hj:j<L.length) :
 U.cell? ⟨g,j*16,none⟩=some (.int .i64 (nth L j).kind)∧(∀t,t<12->U.cell? ⟨g,j*16+(t+1),none⟩=some (.int .i64 (atN (nth L j) t)))∧U.cell? ⟨g,j*16+14,none⟩=some (KV j)∧U.cell? ⟨g,j*16+15,none⟩=some (.int .i64 (nth L j).up):=by
 have hl:=z80 (h.len j hj) (KV j)
 refine⟨h.nd j hj 0 _ (by rw[hl];rfl),fun t ht=>?_,h.nd j hj 14 _ (by rw[hl];rfl),h.nd j hj 15 _ (by rw[hl];rfl)⟩
 have:t=0∨t=1∨t=2∨t=3∨t=4∨t=5∨t=6∨t=7∨t=8∨t=9∨t=10∨t=11:=by omega
 rcases this with rfl|rfl|rfl|rfl|rfl|rfl|rfl|rfl|rfl|rfl|rfl|rfl
 all_goals exact h.nd j hj _ _ (by rw[hl];rfl)
section
variable {s : ByteArray} {w h : Int}
theorem z8t(hr:z2h s w h)(sp:Option Addr)(sn sc:Nat)(idf off:Nat->Int)(E:Nat->Addr)(W:World)(hG:Glo W E)(hA:z2w W E)(hE:ErT W)(ht:z0z W)(hsc:Scr W sp sn idf off)(hsn:sn≤8796093022208)(u:World)(hu:Below W.heap.size W u) :
 Calls Tryz.prog 8 #[.string s,.int .i64 w,.int .i64 h,.slice sp sn sc] u fun e U'=>∃ (L:List Nd) (g cap pb:Nat) (KV:Nat->Value) (P:Nat->Nat->Int),e=.returned (.tuple #[.slice (some ⟨g,0,none⟩) L.length cap,.slice (some ⟨pb,0,none⟩) L.length L.length,.bool true])∧Hid (NP U' g pb L KV P)∧Hid (Tree s L∧∃Wd H,PlTo L Wd H w h idf off sn P L.length)∧Hid (Below W.heap.size W U'):=by
 refine (zh3 s w h sp sn sc idf off E u (hG.cells hu) (hA.below hu) (hE.below hu) (ht.below hu) (hsc.below hu) hsn).mono ?_
 rintro e U' ⟨hb,q⟩
 rcases q with ⟨q,_⟩|⟨_,L,g,cap,KV,pb,P,Wd,H,hp,hS,rfl,hn,hr2,hP⟩
 ·exact absurd hr q
 ·exact⟨L,g,cap,pb,KV,P,rfl,NP.of hn hr2,⟨z45 (z2o hp),Wd,H,hP⟩,hu.trans (hb.mono hu.size)⟩
theorem zc6(hr:¬z2h s w h)(sp:Option Addr)(sn sc:Nat)(idf off:Nat->Int)(E:Nat->Addr)(W:World)(hG:Glo W E)(hA:z2w W E)(hE:ErT W)(ht:z0z W)(hsc:Scr W sp sn idf off)(hsn:sn≤8796093022208)(u:World)(hu:Below W.heap.size W u) :
 Calls Tryz.prog 8 #[.string s,.int .i64 w,.int .i64 h,.slice sp sn sc] u fun e U'=>∃a b,e=.returned (.tuple #[a,b,.bool false])∧Hid (Below W.heap.size W U'):=by
 refine (zh3 s w h sp sn sc idf off E u (hG.cells hu) (hA.below hu) (hE.below hu) (ht.below hu) (hsc.below hu) hsn).mono ?_
 rintro e U' ⟨hb,q⟩
 rcases q with ⟨_,a,b,rfl⟩|⟨q,_⟩
 ·exact⟨a,b,rfl,hu.trans (hb.mono hu.size)⟩
 ·exact absurd q hr
theorem z2h.sz(hr:z2h s w h):(1≤w∧w≤400)∧(1≤h∧h≤400):=by
 obtain⟨_,_,a,b,c,d⟩:=hr
 exact⟨⟨a,b⟩,c,d⟩
end
end
section
open Go.RowKit Go.Sort
def insI(x y a b X Y A B:Int):Prop:=a≤0∨b≤0∨(X≤x∧Y≤y∧x+a≤X+A∧y+b≤Y+B)
theorem z7s(x y a b X Y A B:Int)(w:World)(h:insI x y a b X Y A B)(hx : -1000000000000≤x∧x≤1000000000000 ∧ -1000000000000≤y∧y≤1000000000000 ∧ -1000000000000≤a∧a≤1000000000000 ∧ -1000000000000≤b∧b≤1000000000000)(hX : -1000000000000≤X∧X≤1000000000000 ∧ -1000000000000≤Y∧Y≤1000000000000 ∧ -1000000000000≤A∧A≤1000000000000 ∧ -1000000000000≤B∧B≤1000000000000):Calls Tryz.prog 9 #[rv x y a b,rv X Y A B] w fun e w'=>e=.returned (.bool true)∧Gr w w':=by
 unfold rv
 by_cases h1:a≤0
 ·go_enter Tryz.func9,Tryz.ntmps9
  go_wp2
  all_goals
   go_ret
   exact⟨rfl,((Gr.refl w).alloc _).alloc _⟩
 ·by_cases h2:b≤0
  ·go_enter Tryz.func9,Tryz.ntmps9
   go_wp2
   all_goals
    go_ret
    exact⟨rfl,((Gr.refl w).alloc _).alloc _⟩
  ·unfold insI at h
   obtain⟨c1,c2,c3,c4⟩:X≤x∧Y≤y∧x+a≤X+A∧y+b≤Y+B:=by omega
   clear h
   go_enter Tryz.func9,Tryz.ntmps9
   go_wp2
   all_goals
    go_ret
    exact⟨by first|rfl|exact congrArg (fun z=>Ending.returned (Value.bool z)) (decide_eq_true (by omega)),((Gr.refl w).alloc _).alloc _⟩
end
end Go.Proofs.YtmmaicpblnjdcaaGreatDoor
