import Derived.Test.YtmbefonnkkhfgaaGreatDoorQ09
import Derived.Deep.RegionLaw
import Derived.Deep.OwnRows
import Derived.CallsIn
import Derived.OrdersIn
import Derived.OrdersHeld
import Derived.TacticsIn
import Derived.RangeFuncCalls
import Derived.Deep.RegionHeld
import Derived.Test.YtmbefonnkkhfgaaGreatDoorQ00
import Derived.Lib.Bytealg
import Derived.Test.YtmbefonnkkhfgaaGreatDoorQ43
import Derived.Test.YtmbefonnkkhfgaaGreatDoorQ02
import Derived.Test.YtmbefonnkkhfgaaGreatDoorQ40
import Derived.Test.YtmbefonnkkhfgaaGreatDoorQ35
import Derived.Test.YtmbefonnkkhfgaaGreatDoorQ20
import Derived.Test.YtmbefonnkkhfgaaGreatDoorQ37
import Derived.Test.YtmbefonnkkhfgaaGreatDoorQ38
import Derived.Test.YtmbefonnkkhfgaaGreatDoorQ39
set_option linter.unusedVariables false
set_option maxRecDepth 100000
set_option maxHeartbeats 16000000
namespace Go.Proofs.YtmbefonnkkhfgaaGreatDoor
section
open Go.RowKit
theorem step_append_own{P:Program}{ops:Array Oper}{o:Oper}{a:Act}{w:World}{K:Act->World->Prop}{Q:Exit->Act->World->Prop}{E:Prop}
 (hg:o.guard=none) (s x:Operand) (t:TypeId) (hop:o.op=Op.call {callee:=Callee.builtin Builtin.append,args:=#[s,x],argTypes:=#[t,t]})
 (base:Nat) (e:TypeId) (i:TypeInfo) (z:Value) (size bytes:Nat) (h1:P.underlying t=some (.slice e)) (h2:P.info? e=some i) (h3:i.zero=some z) (h4:i.size=size) (h5:i.bytes=bytes) (h6:z.cells.size=size) (h7:0<size)
 (v:Value) (n:Nat) (olds:List Value) (hs:a.eval s=v) (hown:w.ownsRow base e size v n olds)
 (ad:Addr) (m c:Nat) (news:List Value) (hx:a.eval x=.slice (some ad) m c) (hn:news.length=m*size) (hc:∀j u,news[j]?=some u->w.cell? (ad.add j)=some u) (h1c:∀u∈news,u.oneCell'=true)
 (b1:n+m≤maxLen) (b2:(n+m)*bytes≤140737488355328) (b3:base≤w.heap.size)
 (hK:∀v' w',w'.ownsRow base e size v' (n+m) (olds++news)->w.grownBy w' v.ownBlock->K (a.put o.dst v') w'):
 if Region.wanted o (yielded ops a.tmps)=true then Oper.wp P o a w K Q else E:=by
 have hw:Region.wanted o (yielded ops a.tmps)=true:=by simp[Region.wanted,hg]
 rw[if_pos hw];obtain⟨v',w',hrun,r1,r2,_⟩:=run_append_own (P:=P) w base t o.type e i z size bytes h1 h2 h3 h4 h5 h6 h7 v n olds hown ad m c news hn hc h1c b1 b2 b3;unfold Oper.wp;simp[execOp,hop,resolve,invoke,builtin,hs,hx,hrun,Result.andThen];exact hK v' w' r1 r2
end
section
open Go
def noDefer(o:Oper):Bool:=match o.op with|.defer _=>false|_=>true
theorem op_round{P:Program}{ops:Array Oper}{Q:Exit->Act->World->Prop}{n l i:Nat}{K K':Act->World->Prop}{a:Act}{w:World}(hd:ops.all noDefer=true)(hL:¬LetsOut Q)(hK:∀a w,K a w->K' a w)(h:wpOp P ops Q i K a w):wpOpIn (Fence.wide.inRound l) n P ops Q i K' a w:=by
 unfold wpOp at h;unfold wpOpIn;cases ho:ops[i]? with
 |none=>rw[ho]at h;exact hK _ _ h
 |some o=>
  rw[ho]at h;dsimp only at h⊢;have hn:∀c,o.op≠.defer c:=fun c hc=>by have hm:o∈ops:=Array.mem_of_getElem? ho;have:=Array.all_eq_true_iff_forall_mem.1 hd o hm;unfold noDefer at this;rw[hc]at this;cases this
  split at h
  ·rename_i hw;rw[if_pos hw];rcases h with h|⟨_,h⟩;case inr=>exact absurd h hL
   refine⟨fun _ _=>trivial,?_⟩;show o.uponIn _ n P a K' Q ((Oper.semAt (some l) a.eval o).run P w);rw[Oper.semAt_some l a.eval o hn];unfold Oper.wp at h;generalize(execOp a.eval o).run P w=r at*;cases r with
   |ok x w'=>
    cases x<;>simp only[Oper.upon,Oper.uponIn]at h⊢;case value u=>exact hK _ _ h
    case skip=>exact hK _ _ h
    case defer d=>exact hK _ _ h
    case enter f args=>
     refine⟨fun q=>(by cases q),CallsIn.inRound l (callsIn_wide.2 (Calls.mono h fun e w'' he=>?_))⟩;cases e with
     |returned u=>exact hK _ _ he
     |panicked c=>exact he
     |outgrown=>exact he
    case row row args=>refine⟨fun q=>(by cases q),fun c cs _=>?_⟩;obtain⟨v,w',r,s⟩:=h c cs;exact⟨v,w',hK _ _ r,stepsIn_wide.2 s⟩
   |halt x w'=>cases x<;>simp only[Oper.upon,Oper.uponIn]at h⊢;case panic u=>exact h
  ·rename_i hw;rw[if_neg hw];exact⟨fun _ _=>trivial,hK _ _ h⟩
theorem any_round{P:Program}{ops:Array Oper}{Q:Exit->Act->World->Prop}{n l:Nat}{md:Region.Mode}(hd:ops.all noDefer=true)(hL:¬LetsOut Q):∀(fuel:Nat) (listed:Array Bool) (a:Act) (w:World),wpAny P md ops Q fuel listed a w->wpAnyIn (Fence.wide.inRound l) n P md ops Q fuel listed a w
 |0,_,_,_,h=>h
 |fuel+1,_,_,_,h=>⟨h.1,fun i hi=>op_round hd hL (fun a w=>any_round hd hL fuel _ a w) (h.2 i hi)⟩
theorem region_round{P:Program}{ops:Array Oper}{Q:Exit->Act->World->Prop}{n l id:Nat}{S:World->Prop}{a:Act}{w:World}(hd:ops.all noDefer=true)(hL:¬LetsOut Q)(hm:P.follows .mixedOrders=true)(hS:S w.drew)(h:S w.drew->wpAnyH P .any ops Q S ops.size (Array.replicate ops.size false) a w.drew):(Code.region id ops true).wpIn (Fence.wide.inRound l) n P Q a w:=
 wpIn_region_any hm (any_round hd hL _ _ _ _ (wpAny_of_held _ _ _ _ (h hS)))
end
section
open Go.RowKit Go.Shelf Go.Proofs.Tryz
attribute[local go_sem] Oper.semAt_some
theorem index_cases:∀(t:List UInt8),(Lib.indexByte t 10=-1∧∀x∈t,x≠10)∨∃a b,t=a++10::b∧(∀x∈a,x≠10)∧Lib.indexByte t 10=(a.length:Int)
 |[]=>.inl ⟨rfl,fun x hx=>by cases hx⟩
 |c::t=>by
  by_cases e:c=10;·right;refine⟨[],t,by rw[e];rfl,fun x hx=>(by cases hx),?_⟩;unfold Lib.indexByte;rw[e];rfl
  ·have e2:(c==(10:UInt8))=false:=by simpa using e
   rcases index_cases t with⟨h1,h2⟩|⟨a,b,h1,h2,h3⟩
   ·left;refine⟨?_,fun x hx=>?_⟩;·unfold Lib.indexByte;rw[e2,h1];rfl
    ·rcases List.mem_cons.1 hx with rfl|hx;·exact e
     ·exact h2 x hx
   ·right;refine⟨c::a,b,by rw[h1];rfl,fun x hx=>?_,?_⟩
    ·rcases List.mem_cons.1 hx with rfl|hx;·exact e
     ·exact h2 x hx
    ·unfold Lib.indexByte;rw[e2,h3];have:((a.length:Int)==-1)=false:=by simp
     rw[this];simp
theorem indexByte_any(s:ByteArray)(c:Int)(w:World):Calls prog 200 #[.string s,.int .u8 c] w fun e w'=>e=.returned (Iq (Lib.indexByte s.data.toList c.toNat.toUInt8))∧w'=w:=by go_enter func200,ntmps200;go_wp2;rw[run_callFunc_extern func213 (by kernel_rfl) (by kernel_rfl) (by kernel_rfl) (e:=Extern.BytealgIndexByte.indexByte) (by kernel_rfl),Lib.run_indexByteString];simp only[Result.andThen];rw[Oper.upon_value];go_wp2;go_ret;exact⟨rfl,rfl⟩
theorem lindex_nl(s:ByteArray)(w:World):Calls prog 189 #[.string s,.string ⟨#[10]⟩] w fun e w'=>e=.returned (Iq (Lib.indexByte s.data.toList 10))∧w'=w:=by
  have C:Hid (∀w,Calls prog 200 #[.string s,.int .u8 10] w fun e w'=>e=.returned (Iq (Lib.indexByte s.data.toList 10))∧w'=w):=fun w=>indexByte_any s 10 w;have ga:(({data:=#[10]}:ByteArray)[0]'(by show 0<1;omega))=10:=rfl;go_enter func189,ntmps189;go_wp2_with(go_at_call 200;refine(C _).mono ?_;rintro e w5 ⟨rfl,rfl⟩);all_goals
    go_ret;first
      |exact⟨rfl,rfl⟩
      | (refine⟨?_,rfl⟩;have h:([10]==s.toList)=true:=by assumption
         have e:s.data.toList=[10]:=by rw[<-Lib.toList_data];exact(beq_iff_eq.1 h).symm
         rw[e];rfl)
theorem index_nl(s:ByteArray)(w:World):Calls prog 176 #[.string s,.string ⟨#[10]⟩] w fun e w'=>e=.returned (Iq (Lib.indexByte s.data.toList 10))∧w'=w:=by have C:=qH<|fun w=>lindex_nl s w;go_enter func176,ntmps176;go_wp2_with(go_at_call 189;refine(C _).mono ?_;rintro e w5 ⟨rfl,rfl⟩);go_ret;exact⟨rfl,rfl⟩
def KeepS(b0 b1 b2:Nat)(W W':World):Prop:=W'.heap[b0]?=W.heap[b0]?∧W'.heap[b1]?=W.heap[b1]?∧W'.heap[b2]?=W.heap[b2]?
theorem KeepS.trans{b0 b1 b2:Nat}{A B C:World}(h:KeepS b0 b1 b2 A B)(k:KeepS b0 b1 b2 B C):KeepS b0 b1 b2 A C:=⟨k.1.trans h.1,k.2.1.trans h.2.1,k.2.2.trans h.2.2⟩
def strV(t:List UInt8):Array Value:=#[.string ⟨t.toArray⟩]
def mlen(b:Nat)(W:World):Nat:=match W.cell? ⟨b,0,none⟩with
 |some (.string s)=>s.size
 |_=>0
theorem ext_left(a b:List UInt8)(n:Nat)(hn:n=a.length):(⟨(a++b).toArray⟩:ByteArray).extract 0 n=⟨a.toArray⟩:=by subst hn;apply ByteArray.ext;simp[ByteArray.data_extract]
theorem ext_right(a b:List UInt8)(n k:Nat)(hn:n=a.length)(hk:k=(a++b).length):(⟨(a++b).toArray⟩:ByteArray).extract n k=⟨b.toArray⟩:=by subst hn;subst hk;apply ByteArray.ext;simp[ByteArray.data_extract]
theorem splitSeq1_in(n:Nat)(hn:3≤n)(Bp Bs Bv:Nat)(t:List UInt8)(ht:t.length≤1000000)(W0:World)(hps:Bp≠Bs)(hvs:Bv≠Bs)
 (hp:W0.heap[Bp]?=some (.cells #[.string ⟨#[10]⟩] 9 (0,0))) (hs:W0.heap[Bs]?=some (.cells #[.string ⟨t.toArray⟩] 9 (0,0))) (hv:W0.heap[Bv]?=some (.cells #[Iq 0] 3 (0,0))):
 SeqBox Fence.wide n prog 174 #[Pq Bp,Pq Bs,Pq Bv] strV Bs (KeepS Bp Bs Bv) (fun xs=>xs=paras t) (fun x=>x.length≤t.length) (t.length+1) W0:=by
 intro k0 J W hW hJ hY h0;have hp1:=(hW.block Bp (Array.getElem?_eq_some_iff.1 hp).1).trans hp;have hs1:=(hW.block Bs (Array.getElem?_eq_some_iff.1 hs).1).trans hs;have hv1:=(hW.block Bv (Array.getElem?_eq_some_iff.1 hv).1).trans hv;have HP1:Hid (W.heap[Bp]?=some (.cells #[.string ⟨#[10]⟩] 9 (0,0))∧W.heap[Bs]?=some (.cells #[.string ⟨t.toArray⟩] 9 (0,0))∧W.heap[Bv]?=some (.cells #[Iq 0] 3 (0,0))):=⟨hp1,hs1,hv1⟩;have cp:W.cell? ⟨Bp,0,none⟩=some (.string ⟨#[10]⟩):=by simp[World.cell?,hp1]
 have HJ:=qH<|hJ;have HY:Hid (∀pre x W1,J pre W1->pre.length<t.length+1->x.length≤t.length->YieldAt Fence.wide (n-1) prog k0 (strV x) W1 fun e W'=>e=.returned (.bool true)∧J (pre++[x]) W'∧KeepS Bp Bs Bv W1 W'):=hY;have HTL:Hid ((paras t).length≤t.length+1):=by have h1:=paras_len t;have h2:=List.count_le_length (a:=(10:UInt8)) (l:=t);show _≤_;omega
 have HJ0:=qH<|h0;clear hp hs hv hp1 hs1 hv1 hJ hY h0;refine callsIn_of_wp func174 rfl trivial ?_ rfl;simp only[ntmps174,List.size_toArray,List.length_cons,List.length_nil,Nat.reduceAdd,Nat.reduceSub,Array.replicate_succ,Array.replicate_zero,List.push_toArray,List.append_toArray,List.nil_append,List.cons_append];gi_wp2;gi_loopw[7] (fun _ wr=>∃(x:List UInt8) (pre:List (List UInt8)),Hid (pre++paras x=paras t)∧x.length≤t.length∧Hid (wr.heap[Bp]?=some (.cells #[.string ⟨#[10]⟩] 9 (0,0))∧wr.heap[Bs]?=some (.cells #[.string ⟨x.toArray⟩] 9 (0,0))∧wr.heap[Bv]?=some (.cells #[Iq 0] 3 (0,0)))∧Hid (J pre wr)) (fun _ wr=>mlen Bs wr);case atStart=>exact⟨t,[],rfl,Nat.le_refl _,HP1,HJ0⟩
 case round=>
  obtain⟨x,pre,hpre,hxl,HP,HJs⟩:=hrel;clear cp HP1 HJ0;have hpl:pre.length<t.length+1:=by have h1:=congrArg List.length hpre;rw[List.length_append]at h1;have h2:=paras_len x;have h3:=HTL.out;omega
  have cp:wr.cell? ⟨Bp,0,none⟩=some (.string ⟨#[10]⟩):=by simp[World.cell?,HP.1]
  have cs:wr.cell? ⟨Bs,0,none⟩=some (.string ⟨x.toArray⟩):=by simp[World.cell?,HP.2.1]
  have cv:wr.cell? ⟨Bv,0,none⟩=some (Iq 0):=by simp[World.cell?,HP.2.2]
  have IX:Hid (Calls prog 176 #[.string ⟨x.toArray⟩,.string ⟨#[10]⟩] wr fun e w'=>e=.returned (Iq (Lib.indexByte x 10))∧w'=wr):=index_nl _ _;rcases index_cases x with⟨h1,h2⟩|⟨a,b,h1,h2,h3⟩;·rw[h1]at IX;have HX:=qH<|paras_one x h2;obtain⟨fn,tmps,assign,body,hy,hR⟩:=HY pre x wr HJs hpl hxl;dsimp only[strV]at hy;have HR:=qH<|hR;clear hR h1 h2 HP;gi_wp2_with fail;refine⟨trivial,fun _=>by omega,(callsIn_wide.2 IX).mono ?_⟩;rintro e w5 ⟨rfl,hw5⟩;obtain rfl:=hw5.symm;clear IX;gi_wp2;refine⟨fun _=>by omega,HR.mono ?_⟩;rintro e W3 ⟨rfl,hJ3,hk3⟩;gi_wp2;go_end0;exact⟨⟨_,rfl⟩,_,by rw[<-hpre.out,HX.out],hJ3⟩
  ·rw[h3]at IX;have HX:Hid (paras x=a::paras b):=by show _=_;rw[h1];exact paras_app a b h2
   have hlen:x.length=a.length+1+b.length:=by rw[h1];simp;omega
   have hjs:=HJs.out;obtain⟨fn,tmps,assign,body,hy,hR⟩:=HY pre a wr HJs hpl (by omega);dsimp only[strV]at hy;have HR:=qH<|hR;have hsz:(⟨x.toArray⟩:ByteArray).size=x.length:=by simp[ByteArray.size]
   have e1:(⟨x.toArray⟩:ByteArray).extract 0 a.length=⟨a.toArray⟩:=by rw[h1];exact ext_left a (10::b) _ rfl
   have e2:(⟨x.toArray⟩:ByteArray).extract (a.length+1) (a.length+1+b.length)=⟨b.toArray⟩:=by rw[<-hlen];rw[h1,show a++10::b=(a++[10])++b by simp];exact ext_right (a++[10]) b _ _ (by simp) rfl
   clear hR h1 h2 h3;gi_wp2_with fail;refine⟨trivial,fun _=>by omega,(callsIn_wide.2 IX).mono ?_⟩;rintro e w5 ⟨rfl,hw5⟩;obtain rfl:=hw5.symm;clear IX;gi_wp2;refine⟨fun _=>by omega,HR.mono ?_⟩;clear HR hy;rintro e W3 ⟨rfl,hJ3,hk3⟩;have hp3:=hk3.1.trans HP.1;have hs3:=hk3.2.1.trans HP.2.1;have hv3:=hk3.2.2.trans HP.2.2;have cp3:W3.cell? ⟨Bp,0,none⟩=some (.string ⟨#[10]⟩):=by simp[World.cell?,hp3]
   have cs3:W3.cell? ⟨Bs,0,none⟩=some (.string ⟨x.toArray⟩):=by simp[World.cell?,hs3]
   have fs3:W3.frozen? ⟨Bs,0,none⟩=false:=frozen_of_row _ _ _ _ _ hs3;obtain⟨W4,hW4⟩:=nmd (W3.setCell ⟨Bs,0,none⟩ (.string ⟨b.toArray⟩));have HP4:Hid (W4.heap[Bp]?=some (.cells #[.string ⟨#[10]⟩] 9 (0,0))∧W4.heap[Bs]?=some (.cells #[.string ⟨b.toArray⟩] 9 (0,0))∧W4.heap[Bv]?=some (.cells #[Iq 0] 3 (0,0))):=by rw[<-hW4];exact⟨(Below.heap_setCell _ ⟨Bs,0,none⟩ _ Bp hps).trans hp3,Boxed.set (t:=9) (.string ⟨b.toArray⟩) hs3,(Below.heap_setCell _ ⟨Bs,0,none⟩ _ Bv hvs).trans hv3⟩
   have HJ4:Hid (J (pre++[a]) W4):=by rw[<-hW4];exact HJ _ _ _ _ hJ3 (grownBy_setCell' W3 Bs _) (.inr rfl)
   have HPR:Hid ((pre++[a])++paras b=paras t):=by show _=_;rw[<-hpre.out,HX.out];simp
   have HML:Hid (mlen Bs W4=b.length):=by
    show _=_;have:W4.cell? ⟨Bs,0,none⟩=some (.string ⟨b.toArray⟩):=by simp[World.cell?,HP4.2.1]
    unfold mlen;rw[this];simp[ByteArray.size]
   have HMX:Hid (mlen Bs wr=x.length):=by show _=_;unfold mlen;rw[cs];exact hsz
   clear hp3 hs3 hv3 hJ3 hk3 cp cs cv HP HJs hjs;gi_wp2;go_roundw;case rel=>exact⟨b,pre++[a],HPR,by omega,HP4,HJ4⟩
   case measure=>rw[HML.out,HMX.out];omega
end
section
open Go.RowKit Go.Shelf Go.Proofs.Tryz
attribute[local go_sem] Oper.semAt_some
theorem splitSeq0_any(s:ByteArray)(W:World):
 Calls prog 154 #[.string s,.string ⟨#[10]⟩,Iq 0] W fun e w'=>e=.returned (.func (.func 174) #[] #[Pq (W.heap.size+1),Pq W.heap.size,Pq (W.heap.size+1+1)])∧w'=((W.alloc (.cells #[.string s] 9)).alloc (.cells #[.string ⟨#[10]⟩] 9)).alloc (.cells #[Iq 0] 3):=by go_enter func154,ntmps154;go_wp2;go_ret;exact⟨rfl,rfl⟩
theorem splitSeq_any(s:ByteArray)(W:World):
 Calls prog 129 #[.string s,.string ⟨#[10]⟩] W fun e w'=>e=.returned (.func (.func 174) #[] #[Pq (W.heap.size+1),Pq W.heap.size,Pq (W.heap.size+1+1)])∧w'=((W.alloc (.cells #[.string s] 9)).alloc (.cells #[.string ⟨#[10]⟩] 9)).alloc (.cells #[Iq 0] 3):=by have C:=qH<|splitSeq0_any s;go_enter func129,ntmps129;go_wp2_with(go_at_call 154;refine(C _).mono ?_;rintro e w5 ⟨rfl,rfl⟩);go_ret;exact⟨rfl,rfl⟩
theorem keepS_put{b0 b1 b2 B:Nat}(h0:b0<B)(h1:b1<B)(h2:b2<B)(W:World)(l:Nat)(x:Obj)(hl:B≤l):KeepS b0 b1 b2 W (W.putObj l x):=by have hg:=grownBy_putObj' W l x;have key:∀b,b<B->(W.putObj l x).heap[b]?=W.heap[b]?:=fun b hb=>World.putObj_heap_other (by omega);exact⟨key _ h0,key _ h1,key _ h2⟩
theorem colW_bd(t:List UInt8):0≤colW t∧colW t≤2*t.length:=by unfold colW;have h:=clus_wide (runes t);have h1:=(wideSum_bd _ h (clus (runes t)).length);rw[List.take_length]at h1;have h2:=clus_length (runes t);have h3:=runes_length t;omega
theorem widest_any(s:ByteArray)(W:World)(ht:TabAt W)(hs:s.size≤4000):
 Calls prog 78 #[.string s] W fun e W'=>e=.returned (Iq (txtW s.data.toList))∧Below W.heap.size W W':=by
 obtain⟨t,htt⟩:=nmd s.data.toList;have hst:s=⟨t.toArray⟩:=by rw[<-htt]
 have htl:t.length≤4000:=by rw[<-htt,Array.length_toList];exact hs
 rw[htt];subst hst;clear htt hs;refine(callsIn_wide (n:=6)).1 ?_;refine callsIn_of_wp_marks func78 rfl trivial ?_ rfl;simp only[ntmps78,List.size_toArray,List.length_cons,List.length_nil,Nat.reduceAdd,Nat.reduceSub,Array.replicate_succ,Array.replicate_zero,List.push_toArray,List.append_toArray,List.nil_append,List.cons_append];gi_wp2_with fail;refine⟨trivial,(callsIn_wide.2 (splitSeq_any ⟨t.toArray⟩ _)).mono ?_⟩;rintro e w' ⟨rfl,rfl⟩;obtain⟨S,hS⟩:=nmd W.heap.size;have bO:=Boxed.new W 3 (Iq 0);obtain⟨W0,hW0⟩:=nmd ((((W.alloc (.cells #[Iq 0] 3)).alloc (.cells #[.string ⟨t.toArray⟩] 9)).alloc (.cells #[.string ⟨#[10]⟩] 9)).alloc (.cells #[Iq 0] 3));have bO0:Boxed W0 S 3 (Iq 0):=by rw[<-hW0,<-hS];exact((bO.alloc _).alloc _).alloc _
 have bS0:Boxed W0 (S+1) 9 (.string ⟨t.toArray⟩):=by rw[<-hW0,<-hS];have:=Boxed.new (W.alloc (.cells #[Iq 0] 3)) 9 (.string ⟨t.toArray⟩);rw[World.size_alloc]at this;exact(this.alloc _).alloc _
 have bP0:Boxed W0 (S+2) 9 (.string ⟨#[10]⟩):=by rw[<-hW0,<-hS];have:=Boxed.new ((W.alloc (.cells #[Iq 0] 3)).alloc (.cells #[.string ⟨t.toArray⟩] 9)) 9 (.string ⟨#[10]⟩);rw[World.size_alloc,World.size_alloc]at this;exact this.alloc _
 have bV0:Boxed W0 (S+3) 3 (Iq 0):=by rw[<-hW0,<-hS];have:=Boxed.new (((W.alloc (.cells #[Iq 0] 3)).alloc (.cells #[.string ⟨t.toArray⟩] 9)).alloc (.cells #[.string ⟨#[10]⟩] 9)) 3 (Iq 0);rw[World.size_alloc,World.size_alloc,World.size_alloc]at this;exact this
 have hB0:Below W.heap.size W W0:=by rw[<-hW0];exact((((Gr.refl W).alloc _).alloc _).alloc _).alloc _|>.below
 have hsz:W0.heap.size=S+4:=by rw[<-hW0];simp;omega
 rw[World.size_alloc,hW0];gi_wp2;rw[hS]at hB0;refine wpIn_rangeBox rfl (by omega) (gf:=174) (lb:=#[Pq (S+1+1),Pq (S+1),Pq (S+1+1+1)]) rfl trivial (enters_of func174 (by kernel_rfl) rfl)
  (splitSeq1_in 5 (by omega) (S+1+1) (S+1) (S+1+1+1) t (by omega) W0 (by omega) (by omega) bP0 bS0 bV0) (by omega) KeepS.trans (keepS_put (by omega) (by omega) (by omega)) (Below.refl _ _) (fun _=>rfl)
  (fun pre W'=>(Boxed W' S 3 (Iq (mxF (pre.map colW)))∧Below S W W')∧W0.heap.size≤W'.heap.size)
  (OwnFrom.and (OwnFrom.and (Own.from (boxed_own S 3 (fun pre:List (List UInt8)=>Iq (mxF (pre.map colW)))) _) (ownFrom_below (by omega) (by omega))) (fun _ _ _ _ h hg _=>Nat.le_trans h hg.size))
  (fun pre A B row ⟨h,h2⟩ hg hr=>⟨⟨h.1.kept hg (fun e=>by rcases hr with rfl|rfl<;>simp at e),h.2.grown hg (by have:=h.2.size;omega) (fun q hq=>by rcases hr with rfl|rfl<;>(simp at hq;try omega))⟩,Nat.le_trans h2 hg.size⟩)
  ⟨⟨bO0,hB0⟩,Nat.le_refl _⟩
  (fun x a' W'=>a'={tmps:=#[.string ⟨t.toArray⟩,undef,Iq 0,Pq S,.string ⟨x.toArray⟩,.string ⟨t.toArray⟩,.func (.func 174) #[] #[Pq (S+1+1),Pq (S+1),Pq (S+1+1+1)],.string ⟨x.toArray⟩,undef,undef,undef,undef,undef],defers:=[]})
  (fun _ _ _ _ _ _ hs _ _=>hs)
  ?assign ?body ?done;case assign=>rintro k0 pre x W' K hI hK;dsimp only[strV]at hK⊢;gi_wp2;exact hK _ _ (KeepsFrom.refl _ _) ⟨rfl,rfl,rfl⟩ hI rfl
 case body=>
  rintro k0 pre x a' W' ⟨⟨hv,hB⟩,hWl⟩ rfl hlt hxl;have hc:=hv.cell;have hf:=hv.frozen;have hBs:=hB.size;have hxz:(⟨x.toArray⟩:ByteArray).size=x.length:=by simp[ByteArray.size]
  obtain⟨M,hM⟩:=nmd (mxF (pre.map colW));have hcb:=colW_bd x;obtain⟨y,hy⟩:=nmd (colW x);have HSN:Hid (mxF ((pre++[x]).map colW)=max M y):=by show _=_;rw[List.map_append,List.map_cons,List.map_nil,mxF_snoc,hM,hy]
  have CO:Hid (∀u,(u=W'∨u=W'.drew)->Calls prog 131 #[.string ⟨x.toArray⟩] u fun e u'=>e=.returned (Iq y)∧Hid (Below W'.heap.size W' u')∧u'.cell? ⟨S,0,none⟩=some (Iq M)∧u'.frozen? ⟨S,0,none⟩=false):=fun u hu=>by
   have hbu:Below W'.heap.size W' u:=by
    rcases hu with rfl|rfl;·exact Below.refl _ _
    ·exact(Below.refl _ _).drew
   have htu:=(ht.below (w':=W') (by rw[hS];exact hB)).below hbu;refine(columns_any ⟨x.toArray⟩ u htu (by rw[hxz];omega)).mono ?_;rintro e u' ⟨rfl,q⟩;have hbb:=hbu.trans (q.mono hbu.size);refine⟨by rw[<-hy];rfl,hbb,?_,?_⟩;·rw[<-hM];exact(hbb.cell (p:=⟨S,0,none⟩) hv.lt).trans hv.cell
   ·exact(World.frozen?_of_block (hbb.block S hv.lt)).trans hv.frozen
  have HFIN:Hid (∀u,Below W'.heap.size W' u->boxPost W0.heap.size (KeepS (S+1+1) (S+1) (S+1+1+1)) (fun pre W'=>(Boxed W' S 3 (Iq (mxF (pre.map colW)))∧Below S W W')∧W0.heap.size≤W'.heap.size) (pre++[x]) W' .normal {tmps:=#[],defers:=[]} (u.setCell ⟨S,0,none⟩ (Iq (max M y)))):=fun u hu=>by
   have hu1:Boxed u S 3 (Iq (mxF (pre.map colW))):=(hu.block S hv.lt).trans hv;have key:∀b,b≠S->b<W'.heap.size->(u.setCell ⟨S,0,none⟩ (Iq (max M y))).heap[b]?=W'.heap[b]?:=fun b hb hl=>(Below.heap_setCell u ⟨S,0,none⟩ _ b hb).trans (hu.block b hl);refine⟨⟨Nat.le_trans hu.size (by simp),fun k o hk ho _=>?_⟩,⟨key _ (by omega) (by omega),key _ (by omega) (by omega),key _ (by omega) (by omega)⟩,⟨by rw[HSN.out];exact hu1.set _,?_⟩,Nat.le_trans hWl (Nat.le_trans hu.size (by simp))⟩;·exact(key k (by omega) (Array.getElem?_eq_some_iff.1 ho).1).trans ho
   ·exact(hB.trans (hu.mono (by omega))).setCell (p:=⟨S,0,none⟩) (Nat.le_refl _) _
  rw[hM]at hc;rw[hy]at hcb;have hmix:prog.follows .mixedOrders=true:=by kernel_rfl
  clear hM hy hv hB;gi_wp2_with fail;gi_region_with_o(refine⟨trivial,(CallsIn.inRound k0 (callsIn_wide.2 (CO _ (by first|exact .inl rfl|exact .inr rfl)))).mono ?_⟩;rintro e wq ⟨rfl,bq,cq,fq⟩);all_goals(gi_wp2_with fail)
  all_goals exact HFIN wq bq
 case done=>rintro D ys W' hD rfl ⟨⟨hv,hB⟩,hWl⟩ hK;have hc:=hv.cell;gi_wp2;refine⟨by simp,.inl ⟨_,_,rfl,run_takeDeferred hK,?_⟩⟩;exact⟨_,results_tmp rfl _ _ _,rfl,by rw[hS];exact hB.trans (belowK_b (w:=W) (by omega) W' D _ _ (by omega) hK rfl rfl)⟩
end
section
open Go.RowKit Go.Shelf Go.Proofs.Tryz
attribute[local go_sem] Oper.semAt_some
def sCells(l:List (List UInt8)):List Value:=l.map fun r=>.string ⟨r.toArray⟩
theorem sCells_snoc(l:List (List UInt8))(x:List UInt8):sCells (l++[x])=sCells l++[.string ⟨x.toArray⟩]:=by simp[sCells]
def txtL(t:List UInt8)(wrap w:Int):List (List UInt8):=if wrap=1 then(linesOf (clus (runes t)) w).map (·.T)else(paras t).map fun p=>cutL (one (clus (runes p))) w
theorem lCells_at:∀(ls:List Ln) (k:Nat) (hk:k<ls.length) (t:Nat) (u:Value),(lnCells ls[k])[t]?=some u->(lCells ls)[k*5+t]?=some u
 |[],k,hk,_,_,_=>by simp at hk
 |x::ls,0,_,t,u,h=>by have ht:t<(lnCells x).length:=(List.getElem?_eq_some_iff.1 h).1;show(lnCells x++lCells ls)[0*5+t]?=_;rw[Nat.zero_mul,Nat.zero_add,List.getElem?_append_left ht];exact h
 |x::ls,k+1,hk,t,u,h=>by have hl:(lnCells x).length=5:=rfl;show(lnCells x++lCells ls)[(k+1)*5+t]?=_;rw[List.getElem?_append_right (by omega),hl,show(k+1)*5+t-5=k*5+t by omega];exact lCells_at ls k (by simpa using hk) t u h
theorem pinfoStr:(prog.info? 9).map (fun i=>(i.zero,i.size,i.bytes))=some (some (.string ⟨#[]⟩),1,16):=by kernel_rfl
def KpL(W W':World):Prop:=∀(j:Nat) (c:Array Value) (fz:Nat×Nat),W.heap[j]?=some (.cells c 201 fz)->W'.heap[j]?=some (.cells c 201 fz)
theorem str_not{W:World}{n₀ k:Nat}{v:Value}{xs:List Value}(h:W.ownsRow n₀ 9 1 v k xs){j:Nat}{c:Array Value}{t:TypeId}{fz:Nat×Nat}(hj:W.heap[j]?=some (.cells c t fz))(ht:t≠9):some j≠v.ownBlock:=by
 rcases h.2 with⟨rfl,_⟩|⟨g,cap,cur,rfl,_,hg,_⟩;·simp[Value.ownBlock]
 ·intro e;obtain rfl:j=g:=by simpa[Value.ownBlock]using e
  rw[hj]at hg;cases hg;exact ht rfl
theorem kpl_app{W w1:World}{n₀ B k:Nat}{v v':Value}{xs:List Value}{tmp:Obj}(hv:Boxed W B 99 v)(hrow:W.ownsRow n₀ 9 1 v k xs)(hgrow:(W.alloc tmp).grownBy w1 v.ownBlock):KpL W (w1.setCell ⟨B,0,none⟩ v'):=fun j c fz e=>by
 have hjs:=(Array.getElem?_eq_some_iff.1 e).1;have hjB:j≠B:=by rintro rfl;rw[show W.heap[j]?=_ from hv]at e;cases e
 rw[Below.heap_setCell w1 ⟨B,0,none⟩ v' j hjB];exact(hgrow.block j (by rw[World.size_alloc];omega) (str_not hrow e (by decide))).trans ((Below.heap_alloc _ _ _ hjs).trans e)
theorem ln_own{W:World}{B:Nat}{v:Value}{ls:List Ln}(h:W.ownsRow B 201 5 v ls.length (lCells ls)):∃p c,v=.slice p ls.length c∧(ls.length=0∨∃g cur,p=some ⟨g,0,none⟩∧W.heap[g]?=some (.cells cur 201 (0,0))∧∀k (hk:k<ls.length) (t:Nat) u,(lnCells ls[k])[t]?=some u->W.cell? ⟨g,k*5+t,none⟩=some u):=by
 rcases h.2 with⟨rfl,hz⟩|⟨g,cap,cur,rfl,_,hg,_⟩;·exact⟨none,0,by rw[hz],.inl hz⟩
 ·refine⟨some ⟨g,0,none⟩,cap,rfl,.inr ⟨g,cur,rfl,hg,fun k hk t u hu=>?_⟩⟩;have a0:=h.cells (g:=g) rfl (k*5+t) _ (lCells_at ls k hk t u hu);have e0:(⟨g,0,none⟩:Addr).add (k*5+t)=⟨g,k*5+t,none⟩:=by unfold Addr.add;split<;>simp_all
  rw[e0]at a0;exact a0
theorem linesOf_wrap(kd a0 a1 a2 a3 a4 a5 a6 a7 a9 b0 b1 up:Int)(tx:ByteArray)(kv:Value)(w:Int)(W:World)(ht:TabAt W)(hs:tx.size≤100000)(hw:0≤w∧w≤100000):
 Calls prog 68 #[ndA kd a0 a1 a2 a3 a4 a5 a6 a7 1 a9 b0 b1 tx kv up,Iq w] W fun e W'=>∃v,e=.returned v∧W'.ownsRow W.heap.size 9 1 v (txtL tx.data.toList 1 w).length (sCells (txtL tx.data.toList 1 w))∧Below W.heap.size W W':=by
 obtain⟨i0,hi,hz0,hz1,hz2⟩:=info_parts pinfoStr;obtain⟨S,hS⟩:=nmd W.heap.size;obtain⟨W3,hW3⟩:=nmd (((W.alloc (.cells #[Iq kd,Iq a0,Iq a1,Iq a2,Iq a3,Iq a4,Iq a5,Iq a6,Iq a7,Iq 1,Iq a9,Iq b0,Iq b1,.string tx,kv,Iq up] 61)).alloc (.cells #[Iq w] 3)).alloc (.cells #[.slice none 0 0] 99));have HB3:Hid (Below W.heap.size W W3):=by rw[<-hW3];exact((((Gr.refl W).alloc _).alloc _).alloc _).below
 have hat:W3.heap[S]?=some (.cells #[Iq kd,Iq a0,Iq a1,Iq a2,Iq a3,Iq a4,Iq a5,Iq a6,Iq a7,Iq 1,Iq a9,Iq b0,Iq b1,.string tx,kv,Iq up] 61 (0,0)):=by rw[<-hW3,<-hS,Below.heap_alloc _ _ _ (by rw[World.size_alloc,World.size_alloc];omega),Below.heap_alloc _ _ _ (by rw[World.size_alloc];omega)];exact heap_alloc_new _ _
 have hbw:Boxed W3 (S+1) 3 (Iq w):=by rw[<-hW3,<-hS,<-World.size_alloc];exact(Boxed.new _ 3 (Iq w)).alloc _
 have hbl:Boxed W3 (S+1+1) 99 (.slice none 0 0):=by rw[<-hW3,<-hS,<-World.size_alloc,<-World.size_alloc];exact Boxed.new _ _ _
 have n9:W3.cell? ⟨S,9,none⟩=some (Iq 1):=by rw[Lib.cell_of_heap hat];rfl
 have n13:W3.cell? ⟨S,13,none⟩=some (.string tx):=by rw[Lib.cell_of_heap hat];rfl
 have w0:=hbw.cell;have LN:Hid (Calls prog 128 #[.string tx,Iq w] W3 fun e W'=>∃v,e=.returned v∧Hid (W'.ownsRow W3.heap.size 201 5 v (linesOf (clus (runes tx.data.toList)) w).length (lCells (linesOf (clus (runes tx.data.toList)) w)))∧Below W3.heap.size W3 W'):=lines_any tx w W3 (ht.below HB3) (by omega) (by omega) (by omega);have hnl:(linesOf (clus (runes tx.data.toList)) w).length≤1000000:=by
  have h1:(linesOf (clus (runes tx.data.toList)) w).length≤(clus (runes tx.data.toList)).length+1:=by
   unfold linesOf;split;·simp
   ·exact(linesA_length _ _ 0 (Nat.zero_le _)).2
  have h2:=clus_length (runes tx.data.toList);have h3:=runes_length tx.data.toList;have h4:tx.data.toList.length=tx.size:=by rw[Array.length_toList];rfl
  omega
 have HTX:Hid (txtL tx.data.toList 1 w=(linesOf (clus (runes tx.data.toList)) w).map (·.T)):=if_pos rfl;rw[HTX.out,List.length_map];obtain⟨ls,hls⟩:=nmd (linesOf (clus (runes tx.data.toList)) w);rw[hls]at LN hnl⊢;obtain⟨n,hn⟩:=nmd ls.length;have HN:=qH hn;have HBL:=qH hbl;have HSZ:Hid (S+1+1<W3.heap.size):=hbl.lt;rw[hS];have HB3':Hid (Below S W W3):=by rw[<-hS];exact HB3
 clear hls ht hat hbw hbl HTX HB3;unfold ndA;go_enter func68,ntmps68;go_wp2_with fail;clear hW3 hS;refine LN.mono ?_;rintro e w2 ⟨v,rfl,HL,b2⟩;obtain⟨p,cp,rfl,hlc⟩:=ln_own HL.out;have HLC:=qH hlc;have HB2:Hid (Below S W w2):=HB3'.trans (b2.mono (by have:=HSZ.out;omega));have HBX:Hid (Boxed w2 (S+1+1) 99 (.slice none 0 0)):=(b2.block _ HSZ).trans HBL;clear LN HL hlc b2 n9 n13 w0;rw[hn]at hnl⊢;go_wp2;go_loopw[17] (fun iv wr=>∃k:Nat,k≤n∧iv=Iq k∧Hid (Below S W wr)∧Hid (KpL w2 wr)∧∃vv,Hid (Boxed wr (S+1+1) 99 vv)∧Hid (wr.ownsRow S 9 1 vv k (sCells ((ls.map (·.T)).take k)))) (fun iv _=>n-(intOf iv).toNat);case atStart=>exact⟨0,Nat.zero_le _,rfl,HB2,fun _ _ _ e=>e,_,HBX,World.ownsRow_nil _ _ _ _⟩
 case round=>
  obtain⟨k,hk,rfl,HB,HK,vv,HX,HR⟩:=hrel;by_cases hlt:k<n
  ·have hlt':(k:Int)<(n:Int):=by omega
   obtain⟨g,cur,rfl,hg,hc⟩:=HLC.resolve_left (by have:=HN.out;omega);have hkl:k<ls.length:=by have:=HN.out;omega
   have HSN:Hid (sCells ((ls.map (·.T)).take (k+1))=sCells ((ls.map (·.T)).take k)++[.string ⟨ls[k].T.toArray⟩]):=by show _=_;rw[List.take_succ_eq_append_getElem (by rw[List.length_map];exact hkl),sCells_snoc,List.getElem_map]
   have HC:Hid (∀(t:Nat) u,(lnCells ls[k])[t]?=some u->wr.cell? ⟨g,k*5+t,none⟩=some u):=fun t u hu=>(World.cell?_of_block (a:=⟨g,k*5+t,none⟩) ((HK g cur _ hg).trans hg.symm)).trans (hc k hkl t u hu);obtain⟨⟨T,V,F,N,E⟩,hx⟩:=nmd ls[k];rw[hx]at HC HSN;have c0:wr.cell? ⟨g,k*5,none⟩=some (.string ⟨T.toArray⟩):=HC 0 _ rfl;have c1:wr.cell? ⟨g,k*5+1,none⟩=some (Iq V):=HC 1 _ rfl;have c2:wr.cell? ⟨g,k*5+2,none⟩=some (Iq F):=HC 2 _ rfl;have c3:wr.cell? ⟨g,k*5+3,none⟩=some (Iq N):=HC 3 _ rfl;have c4:wr.cell? ⟨g,k*5+4,none⟩=some (Iq E):=HC 4 _ rfl;obtain⟨w5,hw5⟩:=nmd (wr.alloc (.cells #[.string ⟨T.toArray⟩,Iq V,Iq F,Iq N,Iq E] 201));have hx5:Boxed w5 (S+1+1) 99 vv:=by rw[<-hw5];exact HX.alloc _
   have hr5:w5.ownsRow S 9 1 vv k (sCells ((ls.map (·.T)).take k)):=by rw[<-hw5];exact World.ownsRow.alloc HR _
   have hb5:Below S W w5:=by rw[<-hw5];exact HB.alloc (by have:=HX.lt;omega) _
   have hk5:KpL w2 w5:=by rw[<-hw5];exact fun j c fz e=>(Below.heap_alloc _ _ _ (Array.getElem?_eq_some_iff.1 (HK j c fz e)).1).trans (HK j c fz e)
   have l0:w5.cell? ⟨wr.heap.size,0,none⟩=some (.string ⟨T.toArray⟩):=by rw[<-hw5,Lib.cell_of_heap (heap_alloc_new _ _)];rfl
   have x5:=hx5.cell;have hz5:S≤w5.heap.size:=by have:=hx5.lt;omega
   have HX5:=qH hx5;have HR5:=qH hr5;have HB5:=qH hb5;have HK5:=qH hk5;clear hx HC hc hg HK HB HR HX hx5 hr5 hb5 hk5;go_wp2_with(at_builtin;refine wpList_append_own _ rfl _ _ 99 rfl S 9 i0 (.string ⟨#[]⟩) 1 16 underlying99 hi hz0 hz1 hz2 rfl (by decide) _ _ _ rfl (World.ownsRow.alloc HR5 _) _ 1 1 [.string ⟨T.toArray⟩] rfl rfl ?c1 ?c2 ?c3 ?c4 ?c5 ?_);(try case c1=>exact new_cells _ _ _);(try case c2=>first|exact rfl|(intro u hu;simp at hu;subst hu;rfl));case c3=>unfold maxLen;omega
   case c4=>omega
   case c5=>first|omega|(rw[World.size_alloc];omega)
   intro v' w6 hown' hgr _;obtain⟨g',cap',rfl⟩:=ownsRow_succ hown';obtain⟨hv1,hv2,hr2,_,hb2⟩:=HX5.appended (by decide) HR5 hz5 (by omega) hown' hgr;have HKN:Hid (KpL w2 (w6.setCell ⟨S+1+1,0,none⟩ (Sq g' (k+1) cap'))):=fun j c fz e=>kpl_app HX5 HR5 hgr j c fz (HK5 j c fz e);have HV2:=qH hv2;have HR2:=qH hr2;have HB6:Hid (Below S W (w6.setCell ⟨S+1+1,0,none⟩ (Sq g' (k+1) cap'))):=HB5.trans hb2;have hc1:=hv1.cell;have hf1:=hv1.frozen;clear hgr hown' hv1 hv2 hr2 hb2;go_wp2;go_roundw;case rel=>exact⟨k+1,hlt,by go_num,HB6,HKN,_,HV2,by rw[HSN.out];exact HR2⟩
   case measure=>simp[intOf];omega
  ·have hlt':¬(k:Int)<(n:Int):=by omega
   obtain rfl:k=n:=by omega
   have x0:=HX.cell;have HRN:Hid (wr.ownsRow S 9 1 vv k (sCells (ls.map (·.T)))):=by have:=HR.out;rw[List.take_of_length_le (by rw[List.length_map,HN.out];omega)]at this;exact this
   go_wp2;go_ret;exact⟨_,rfl,HRN,HB⟩
theorem own_base{W:World}{B B':Nat}{e:TypeId}{size:Nat}{v:Value}{n:Nat}{xs:List Value}(h:W.ownsRow B e size v n xs)(hb:B'≤B):W.ownsRow B' e size v n xs:=by
 refine⟨h.1,?_⟩;rcases h.2 with h|⟨g,cap,cur,h1,h2,h3⟩;·exact .inl h
 ·exact .inr ⟨g,cap,cur,h1,Nat.le_trans hb h2,h3⟩
theorem own_bel{W u:World}{B:Nat}{e:TypeId}{size:Nat}{v:Value}{n:Nat}{xs:List Value}(h:W.ownsRow B e size v n xs)(hb:Below W.heap.size W u):u.ownsRow B e size v n xs:=by
 refine⟨h.1,?_⟩;rcases h.2 with h|⟨g,cap,cur,h1,h2,h3,h4⟩;·exact .inl h
 ·exact .inr ⟨g,cap,cur,h1,h2,(hb.block g (Array.getElem?_eq_some_iff.1 h3).1).trans h3,h4⟩
def cutP(w:Int)(p:List UInt8):List UInt8:=cutL (one (clus (runes p))) w
theorem linesOf_cut(kd a0 a1 a2 a3 a4 a5 a6 a7 a8 a9 b0 b1 up:Int)(tx:ByteArray)(kv:Value)(w:Int)(W:World)(ht:TabAt W)(hs:tx.size≤100000)(hw:0≤w∧w≤100000)(h8:a8≠1):
 Calls prog 68 #[ndA kd a0 a1 a2 a3 a4 a5 a6 a7 a8 a9 b0 b1 tx kv up,Iq w] W fun e W'=>∃v,e=.returned v∧W'.ownsRow W.heap.size 9 1 v (txtL tx.data.toList a8 w).length (sCells (txtL tx.data.toList a8 w))∧Below W.heap.size W W':=by
 have HTX:Hid (txtL tx.data.toList a8 w=(paras tx.data.toList).map (cutP w)):=if_neg h8;rw[HTX.out];obtain⟨t,htt⟩:=nmd tx.data.toList;have hst:tx=⟨t.toArray⟩:=by rw[<-htt]
 have htl:t.length≤100000:=by rw[<-htt,Array.length_toList];exact hs
 rw[htt];subst hst;clear htt hs HTX;have hmix:prog.follows .mixedOrders=true:=by kernel_rfl
 have e8:(a8==1)=false:=by simpa using h8
 obtain⟨i0,hi,hz0,hz1,hz2⟩:=info_parts pinfoStr;unfold ndA;refine(callsIn_wide (n:=6)).1 ?_;refine callsIn_of_wp_marks func68 rfl trivial ?_ rfl;simp only[ntmps68,List.size_toArray,List.length_cons,List.length_nil,Nat.reduceAdd,Nat.reduceSub,Array.replicate_succ,Array.replicate_zero,List.push_toArray,List.append_toArray,List.nil_append,List.cons_append];gi_wp2_with fail;obtain⟨S,hS⟩:=nmd W.heap.size;obtain⟨X1,h1⟩:=nmd (W.alloc (.cells #[Iq kd,Iq a0,Iq a1,Iq a2,Iq a3,Iq a4,Iq a5,Iq a6,Iq a7,Iq a8,Iq a9,Iq b0,Iq b1,.string ⟨t.toArray⟩,kv,Iq up] 61));have s1:X1.heap.size=S+1:=by rw[<-h1,World.size_alloc,hS]
 obtain⟨X2,h2⟩:=nmd (X1.alloc (.cells #[Iq w] 3));have s2:X2.heap.size=S+1+1:=by rw[<-h2,World.size_alloc,s1]
 obtain⟨X3,h3⟩:=nmd (X2.alloc (.cells #[.slice none 0 0] 99));have s3:X3.heap.size=S+1+1+1:=by rw[<-h3,World.size_alloc,s2]
 rw[h1,h2,h3];refine⟨trivial,(callsIn_wide.2 (splitSeq_any ⟨t.toArray⟩ _)).mono ?_⟩;rintro e w' ⟨rfl,rfl⟩;obtain⟨X4,h4⟩:=nmd (X3.alloc (.cells #[.string ⟨t.toArray⟩] 9));have s4:X4.heap.size=S+1+1+1+1:=by rw[<-h4,World.size_alloc,s3]
 obtain⟨X5,h5⟩:=nmd (X4.alloc (.cells #[.string ⟨#[10]⟩] 9));have s5:X5.heap.size=S+1+1+1+1+1:=by rw[<-h5,World.size_alloc,s4]
 obtain⟨X6,h6⟩:=nmd (X5.alloc (.cells #[Iq 0] 3));have s6:X6.heap.size=S+1+1+1+1+1+1:=by rw[<-h6,World.size_alloc,s5]
 have bW:Boxed X6 (S+1) 3 (Iq w):=by
  have q:Boxed X2 (S+1) 3 (Iq w):=by rw[<-h2,<-s1];exact Boxed.new _ _ _
  rw[<-h6,<-h5,<-h4,<-h3];exact(((q.alloc _).alloc _).alloc _).alloc _
 have bL:Boxed X6 (S+1+1) 99 (.slice none 0 0):=by
  have q:Boxed X3 (S+1+1) 99 (.slice none 0 0):=by rw[<-h3,<-s2];exact Boxed.new _ _ _
  rw[<-h6,<-h5,<-h4];exact((q.alloc _).alloc _).alloc _
 have bT:Boxed X6 (S+1+1+1) 9 (.string ⟨t.toArray⟩):=by
  have q:Boxed X4 (S+1+1+1) 9 (.string ⟨t.toArray⟩):=by rw[<-h4,<-s3];exact Boxed.new _ _ _
  rw[<-h6,<-h5];exact(q.alloc _).alloc _
 have bP:Boxed X6 (S+1+1+1+1) 9 (.string ⟨#[10]⟩):=by
  have q:Boxed X5 (S+1+1+1+1) 9 (.string ⟨#[10]⟩):=by rw[<-h5,<-s4];exact Boxed.new _ _ _
  rw[<-h6];exact q.alloc _
 have bV:Boxed X6 (S+1+1+1+1+1) 3 (Iq 0):=by rw[<-h6,<-s5];exact Boxed.new _ _ _
 have hB0:Below S W X6:=by rw[<-h6,<-h5,<-h4,<-h3,<-h2,<-h1,<-hS];exact((((((Gr.refl W).alloc _).alloc _).alloc _).alloc _).alloc _).alloc _|>.below
 rw[h4,h5,h6,s3,hS];have ht6:TabAt X6:=ht.below (by rw[hS];exact hB0);clear h1 h2 h3 h4 h5 h6 s1 s2 s3 s4 s5;gi_wp2;refine wpIn_rangeBox rfl (by omega) (gf:=174) (lb:=#[Pq (S+1+1+1+1),Pq (S+1+1+1),Pq (S+1+1+1+1+1)]) rfl trivial (enters_of func174 (by kernel_rfl) rfl)
  (splitSeq1_in 5 (by omega) (S+1+1+1+1) (S+1+1+1) (S+1+1+1+1+1) t (by omega) X6 (by omega) (by omega) bP bT bV) (by omega) KeepS.trans (keepS_put (by omega) (by omega) (by omega)) (Below.refl _ _) (fun _=>rfl)
  (fun pre W'=>((∃v,Boxed W' (S+1+1) 99 v∧W'.ownsRow X6.heap.size 9 1 v pre.length (sCells (pre.map (cutP w)))∧True)∧Boxed W' (S+1) 3 (Iq w))∧Below S W W'∧X6.heap.size≤W'.heap.size)
  (OwnFrom.and (OwnFrom.and (Own.from (holdsRow_own X6.heap.size (S+1+1) 99 9 1 (fun pre:List (List UInt8)=>pre.length) (fun pre=>sCells (pre.map (cutP w))) (fun _ _=>True)) _) (Own.from (boxed_own _ _ _) _)) (OwnFrom.and (ownFrom_below (by omega) (by omega)) (fun _ _ _ _ h hg _=>Nat.le_trans h hg.size)))
  (fun pre A B row ⟨⟨⟨v,q1,q2,_⟩,q3⟩,q4,q5⟩ hg hr=>by
   have hro:∀b,b≠S+1+1+1->some b≠row:=fun b hb e=>by rcases hr with rfl|rfl<;>simp at e;omega
   refine⟨⟨⟨v,q1.kept hg (hro _ (by omega)),q2.kept hg ?_,trivial⟩,q3.kept hg (hro _ (by omega))⟩,q4.grown hg (by have:=q4.size;omega) (fun q hq=>by rcases hr with rfl|rfl<;>(simp at hq;try omega)),Nat.le_trans q5 hg.size⟩;rcases q2.2 with⟨rfl,_⟩|⟨g,cap,cur,rfl,hg1,_⟩;·exact .inl rfl
   ·exact .inr (fun e=>hro g (by omega) e))
  ⟨⟨⟨_,bL,World.ownsRow_nil _ _ _ _,trivial⟩,bW⟩,hB0,Nat.le_refl _⟩
  (fun x a' W'=>a'={tmps:=#[.agg #[Iq kd,Iq a0,Iq a1,Iq a2,Iq a3,Iq a4,Iq a5,Iq a6,Iq a7,Iq a8,Iq a9,Iq b0,Iq b1,.string ⟨t.toArray⟩,kv,Iq up],Iq w,Pq S,Pq (S+1),.slice none 0 0,Pq (S+1+1),undef,undef,.string ⟨x.toArray⟩,.pointer (some ⟨S,9,none⟩),Iq a8,.bool false,undef,undef,undef,undef,undef,undef,undef,undef,undef,undef,undef,undef,undef,undef,undef,undef,.pointer (some ⟨S,13,none⟩),.string ⟨t.toArray⟩,.func (.func 174) #[] #[Pq (S+1+1+1+1),Pq (S+1+1+1),Pq (S+1+1+1+1+1)],.string ⟨x.toArray⟩,undef,undef,undef,undef,undef,undef,undef],defers:=[]})
  (fun _ _ _ _ _ _ hs _ _=>hs)
  ?assign ?body ?done;case assign=>rintro k0 pre x W' K hI hK;dsimp only[strV]at hK⊢;gi_wp2;exact hK _ _ (KeepsFrom.refl _ _) ⟨rfl,rfl,rfl⟩ hI rfl
 case body=>
  rintro k0 pre x a' W' ⟨⟨⟨v,hv,hrow,_⟩,hbw⟩,hB,hWl⟩ rfl hlt hxl;have hc:=hv.cell;have wc:=hbw.cell;have hxz:(⟨x.toArray⟩:ByteArray).size=x.length:=by simp[ByteArray.size]
  obtain⟨y,hy⟩:=nmd (cutP w x);have HV:=qH hv;have HRW:=qH hrow;have HBW:=qH hbw;have HBB:=qH hB;have CU:Hid (∀u,(u=W'∨u=W'.drew)->Calls prog 130 #[.string ⟨x.toArray⟩,Iq w] u fun e u'=>e=.returned (.string ⟨y.toArray⟩)∧Hid (Below W'.heap.size W' u')):=fun u hu=>by
   have hbu:Below W'.heap.size W' u:=by
    rcases hu with rfl|rfl;·exact Below.refl _ _
    ·exact(Below.refl _ _).drew
   refine(cut_any ⟨x.toArray⟩ w u ((ht.below (w':=W') (by rw[hS];exact hB)).below hbu) (by rw[hxz];omega) (by omega) (by omega)).mono ?_;rintro e u' ⟨rfl,q⟩;exact⟨by rw[<-hy];rfl,hbu.trans (q.mono hbu.size)⟩
  have HFIN:Hid (∀u v' w6,Below W'.heap.size W' u->w6.ownsRow X6.heap.size 9 1 v' (pre.length+1) (sCells (pre.map (cutP w))++[.string ⟨y.toArray⟩])->(u.alloc (.cells #[.string ⟨y.toArray⟩] 9)).grownBy w6 v.ownBlock->(w6.cell? ⟨S+1+1,0,none⟩=some v∧w6.frozen? ⟨S+1+1,0,none⟩=false∧w6.cell? ⟨S+1,0,none⟩=some (Iq w))∧boxPost X6.heap.size (KeepS (S+1+1+1+1) (S+1+1+1) (S+1+1+1+1+1)) (fun pre W'=>((∃v,Boxed W' (S+1+1) 99 v∧W'.ownsRow X6.heap.size 9 1 v pre.length (sCells (pre.map (cutP w)))∧True)∧Boxed W' (S+1) 3 (Iq w))∧Below S W W'∧X6.heap.size≤W'.heap.size) (pre++[x]) W' .normal {tmps:=#[],defers:=[]} (w6.setCell ⟨S+1+1,0,none⟩ v')):=fun u v' w6 hu hown' hgr=>by
   have hvu:Boxed u (S+1+1) 99 v:=(hu.block _ HV.lt).trans HV;have hru:u.ownsRow X6.heap.size 9 1 v pre.length (sCells (pre.map (cutP w))):=own_bel HRW hu;obtain⟨hv1,hv2,hr2,hk2,hb2⟩:=hvu.appended (by decide) (own_base hru (by omega:S≤_)) (by have:=hvu.lt;omega) (by omega) (own_base hown' (by omega:S≤_)) hgr;have hr3:(w6.setCell ⟨S+1+1,0,none⟩ v').ownsRow X6.heap.size 9 1 v' (pre.length+1) (sCells (pre.map (cutP w))++[.string ⟨y.toArray⟩]):=hown'.kept (grownBy_setCell' w6 _ v') (.inr (hv1.not_row (by decide) hown').symm);have hrow0:∀q,v.ownBlock=some q->X6.heap.size≤q:=fun q hq=>(hru.lt q hq).1;have key:∀b,b≠S+1+1->b<X6.heap.size->(w6.setCell ⟨S+1+1,0,none⟩ v').heap[b]?=W'.heap[b]?:=fun b hb hl=>by rw[Below.heap_setCell w6 ⟨S+1+1,0,none⟩ v' b hb,hgr.block b (by rw[World.size_alloc];have:=hu.size;omega) (fun e=>by have:=hrow0 b e.symm;omega),Below.heap_alloc _ _ _ (by have:=hu.size;omega)];exact hu.block b (by omega)
   have hwb:Boxed (w6.setCell ⟨S+1+1,0,none⟩ v') (S+1) 3 (Iq w):=(key (S+1) (by omega) (by omega)).trans HBW;refine⟨⟨hv1.cell,hv1.frozen,?_⟩,?_,⟨key _ (by omega) (by omega),key _ (by omega) (by omega),key _ (by omega) (by omega)⟩,⟨⟨v',hv2,?_,trivial⟩,hwb⟩,HBB.trans ((hu.mono (by omega)).trans hb2),?_⟩;·have:=(Below.heap_setCell w6 ⟨S+1+1,0,none⟩ v' (S+1) (by show S+1≠S+1+1;omega)).symm.trans hwb;exact Boxed.cell this
   ·exact(KeepsOthers.trans ⟨hu.size,fun k o ho _=>(hu.block k (Array.getElem?_eq_some_iff.1 ho).1).trans ho⟩ hk2).from _
   ·rw[List.map_append,List.map_cons,List.map_nil,sCells_snoc,hy,List.length_append];exact hr3
   ·have h1:=hu.size;have h2:=hgr.size;rw[World.size_alloc]at h2;simp[World.setCell];omega
  clear hv hrow hbw hB;gi_wp2_with fail;refine region_round (S:=fun u=>u.cell? ⟨S+1,0,none⟩=some (Iq w)) (by kernel_rfl) (by rintro⟨_,_,q⟩;exact q) hmix wc (fun hS0=>?_);refine wpAnyH_take (i:=1) (v:=?v1) rfl (by kernel_rfl) (by kernel_rfl) (by kernel_rfl) (fun _ _ _ h=>h) (Or.inl ⟨by rfl,?hy⟩) (by assumption) ?_;case hy=>intro w hSw;(try dsimp only at hSw);go_simp<;>with_reducible rfl
  try simp only[Act.put]
  refine wpAnyH_take (i:=2) (v:=?v2) rfl (by kernel_rfl) (by kernel_rfl) (by kernel_rfl) (fun _ _ _ h=>h) (Or.inl ⟨by rfl,?hy⟩) (by assumption) ?_;case hy=>intro w hSw;(try dsimp only at hSw);go_simp<;>with_reducible rfl
  try simp only[Act.put]
  refine wpAnyH_ready (rs:=[0,3]) (by kernel_rfl) (by simp) ?_;refine AllReadyH.cons rfl (fun K' hK=>?_) (AllReadyH.cons rfl (fun K' hK=>?_) AllReadyH.nil);focus go_simp;refine hK.out _ _ wc (fun _=>?_);clear hK K';refine wpAnyH_ready (rs:=[3]) (by kernel_rfl) (by simp) ?_;refine AllReadyH.cons rfl (fun K' hK=>?_) AllReadyH.nil;go_simp;go_wp2_with(go_at_call 130;refine Calls.mono (CU _ (by first|exact .inl rfl|exact .inr rfl)) ?_;rintro e u ⟨rfl,HU⟩);have wu:u.cell? ⟨S+1,0,none⟩=some (Iq w):=(HU.cell (p:=⟨S+1,0,none⟩) HBW.lt).trans HBW.cell;have lu:u.cell? ⟨S+1+1,0,none⟩=some v:=(HU.cell (p:=⟨S+1+1,0,none⟩) HV.lt).trans HV.cell;refine hK.out _ _ wu (fun _=>?_);clear hK K';refine wpAnyH_ready (rs:=[4]) (by kernel_rfl) (by simp) ?_;refine AllReadyH.cons rfl (fun K' hK=>?_) AllReadyH.nil;go_simp;have wb:(u.alloc (.cells #[.string ⟨y.toArray⟩] 9)).cell? ⟨S+1,0,none⟩=some (Iq w):=(World.cell?_alloc_some u _ _ (by rw[wu];rfl)).trans wu;have lb:(u.alloc (.cells #[.string ⟨y.toArray⟩] 9)).cell? ⟨S+1+1,0,none⟩=some v:=(World.cell?_alloc_some u _ _ (by rw[lu];rfl)).trans lu;refine hK.out _ _ wb (fun _=>?_);clear hK K'
  rotate_left;focus
   go_simp;go_wp2_with(go_at_call 130;refine Calls.mono (CU _ (by first|exact .inl rfl|exact .inr rfl)) ?_;rintro e u ⟨rfl,HU⟩);have wu:u.cell? ⟨S+1,0,none⟩=some (Iq w):=(HU.cell (p:=⟨S+1,0,none⟩) HBW.lt).trans HBW.cell;have lu:u.cell? ⟨S+1+1,0,none⟩=some v:=(HU.cell (p:=⟨S+1+1,0,none⟩) HV.lt).trans HV.cell;refine hK.out _ _ wu (fun _=>?_);clear hK K';refine wpAnyH_ready (rs:=[0,4]) (by kernel_rfl) (by simp) ?_;refine AllReadyH.cons rfl (fun K' hK=>?_) (AllReadyH.cons rfl (fun K' hK=>?_) AllReadyH.nil);focus go_simp;refine hK.out _ _ wu (fun _=>?_);clear hK K';refine wpAnyH_ready (rs:=[4]) (by kernel_rfl) (by simp) ?_;refine AllReadyH.cons rfl (fun K' hK=>?_) AllReadyH.nil;go_simp;have wb:(u.alloc (.cells #[.string ⟨y.toArray⟩] 9)).cell? ⟨S+1,0,none⟩=some (Iq w):=(World.cell?_alloc_some u _ _ (by rw[wu];rfl)).trans wu;have lb:(u.alloc (.cells #[.string ⟨y.toArray⟩] 9)).cell? ⟨S+1+1,0,none⟩=some v:=(World.cell?_alloc_some u _ _ (by rw[lu];rfl)).trans lu;refine hK.out _ _ wb (fun _=>?_);clear hK K'
   rotate_left;focus go_simp;have wb:(u.alloc (.cells #[.string ⟨y.toArray⟩] 9)).cell? ⟨S+1,0,none⟩=some (Iq w):=(World.cell?_alloc_some u _ _ (by rw[wu];rfl)).trans wu;have lb:(u.alloc (.cells #[.string ⟨y.toArray⟩] 9)).cell? ⟨S+1+1,0,none⟩=some v:=(World.cell?_alloc_some u _ _ (by rw[lu];rfl)).trans lu;refine hK.out _ _ wb (fun _=>?_);clear hK K';refine wpAnyH_ready (rs:=[0]) (by kernel_rfl) (by simp) ?_;refine AllReadyH.cons rfl (fun K' hK=>?_) AllReadyH.nil;go_simp;refine hK.out _ _ wb (fun _=>?_);clear hK K'
  all_goals refine wpAnyH_ready (rs:=[5]) (by kernel_rfl) (by simp) ?_;refine AllReadyH.cons rfl (fun K' hK=>?_) AllReadyH.nil;refine step_append_own rfl (.tmp 32) (.tmp 36) 99 rfl X6.heap.size 9 i0 (.string ⟨#[]⟩) 1 16 underlying99 hi hz0 hz1 hz2 rfl (by decide) v pre.length (sCells (pre.map (cutP w))) (by simp[Act.eval]) (World.ownsRow.alloc (own_bel HRW HU) _) _ 1 1 [.string ⟨y.toArray⟩] (by simp[Act.eval]) rfl (new_cells _ _ _) (by intro u hu;simp at hu;subst hu;rfl) (by unfold maxLen;omega) (by omega) (by rw[World.size_alloc];have:=HU.size;omega) ?_;intro v' w6 hown' hgr;obtain⟨g',cap',rfl⟩:=ownsRow_succ hown';obtain⟨⟨f1,f2,f3⟩,f4⟩:=HFIN u _ w6 HU hown' hgr;refine hK.out _ _ f3 (fun _=>?_);clear hK K';refine wpAnyH_ready (rs:=[6]) (by kernel_rfl) (by simp) ?_;refine AllReadyH.cons rfl (fun K' hK=>?_) AllReadyH.nil;go_simp;refine hK.out _ _ ((World.cell?_setCell_far _ _ _ _ (by show S+1+1≠S+1;omega)).trans f3) (fun _=>?_);clear hK K';refine wpAnyH_done (by kernel_rfl) ?_ _;exact f4
 case done=>rintro D ys W' hD rfl ⟨⟨⟨v,hv,hrow,_⟩,hbw⟩,hB,_⟩ hK;have hc:=hv.cell;gi_wp2;refine⟨by simp,.inl ⟨_,_,rfl,run_takeDeferred hK,?_⟩⟩;refine⟨_,results_tmp rfl _ _ _,v,rfl,?_,by rw[hS];exact hB.trans (belowK_b (w:=W) (by omega) W' D _ _ (by omega) hK rfl rfl)⟩;rw[hS,List.length_map];exact ownsRow_putObj (own_base hrow (by omega)) _ hK rfl
end
section
open Go.RowKit Go.Sort Go.Proofs.Tryz
theorem joined_mid(l:List (List UInt8×Int))(a n:Nat):(joined ((l.drop a).take n)).length≤(joined l).length:=by
 have h1:joined l=joined (l.take a)++joined (l.drop a):=by rw[<-joined_app,List.take_append_drop]
 have h2:joined (l.drop a)=joined ((l.drop a).take n)++joined ((l.drop a).drop n):=by rw[<-joined_app,List.take_append_drop]
 rw[h1,h2,List.length_append,List.length_append];omega
theorem linesF_len(l:List (List UInt8×Int))(w:Int)(B:Nat)(hj:(joined l).length≤B)(hw:w.toNat≤B):∀(f a:Nat),∀x∈linesF f l w a,x.T.length≤B:=by
 have key:∀a,(lnAt l w a).T.length≤B:=fun a=>by
  have:=joined_mid l a (firstL (l.drop a) w).n;unfold lnAt;dsimp only;split;·simpa using hw
  ·dsimp only;omega
 intro f;induction f with
 |zero=>intro a x hx;cases hx
 |succ f ih=>
  intro a x hx;simp only[linesF]at hx;split at hx;·rw[List.mem_singleton.1 hx];exact key a
  ·rcases List.mem_cons.1 hx with rfl|hx;·exact key a
   ·exact ih _ x hx
theorem one_joined(l:List (List UInt8×Int)):(joined (one l)).length=(joined l).length:=by
 induction l with
 |nil=>rfl
 |cons c l ih=>
  show(joined ((if c.1=[10]then([32],1)else c)::one l)).length=_;rw[joined_cons,joined_cons,List.length_append,List.length_append,ih];split;·rename_i e;rw[e];rfl
  ·rfl
theorem paras_le:∀(t:List UInt8),∀p∈paras t,p.length≤t.length
 |[],p,hp=>by have:paras ([]:List UInt8)=[[]]:=rfl;rw[this]at hp;rw[List.mem_singleton.1 hp];simp
 |b::t,p,hp=>by
  have ih:=paras_le t;unfold paras at hp;split at hp
  ·rcases List.mem_cons.1 hp with rfl|hp;·simp
   ·have:=ih p hp;simp;omega
  ·split at hp;·rw[List.mem_singleton.1 hp];simp
   ·rename_i q ps e;rcases List.mem_cons.1 hp with rfl|hp;·have:=ih q (by rw[e];simp);simp;omega
    ·have:=ih p (by rw[e];simp[hp]);simp;omega
theorem txtL_len(t:List UInt8)(wrap w:Int)(ht:t.length≤100000)(hw:w≤100000):∀s∈txtL t wrap w,s.length≤3000000:=by
 intro s hs;unfold txtL at hs;split at hs
 ·obtain⟨x,hx,rfl⟩:=List.mem_map.1 hs;have hj:=joined_length t;unfold linesOf at hx;split at hx;·cases hx
  ·exact linesF_len _ w 3000000 (by omega) (by omega) _ _ x hx
 ·obtain⟨p,hp,rfl⟩:=List.mem_map.1 hs;have hl:=paras_le t p hp;have hj:=joined_length p;have h1:=one_joined (clus (runes p));unfold cutL;split;·simp
  ·split;·omega
   ·have:=joined_take_le (one (clus (runes p))) (fitN (one (clus (runes p))) (w-1));rw[List.length_append];simp;omega
theorem algn_len(T:List UInt8)(c W how:Int):(algn T c W how).length≤T.length+100000+c.natAbs:=by
 unfold algn;have:=ahd_le (min W 100000-c).toNat how;split;·omega
 ·simp only[List.length_append,List.length_replicate];omega
section
variable(W H:Nat) (f g bd cx cy ca cb:Int)
def txK(x w al:Int):List (List UInt8)->Int->(Nat->Nat->Ce)->Nat->Nat->Ce
 |[],_,c=>c
 |s::r,y,c=>txK x w al r (y+1) (wrL W H f g bd cx cy ca cb x y (algn s (wideSum (clus (runes s))) w al) c)
theorem txK_snoc(x w al:Int):∀(l:List (List UInt8)) (s:List UInt8) (y:Int) (c:Nat->Nat->Ce),txK W H f g bd cx cy ca cb x w al (l++[s]) y c=wrL W H f g bd cx cy ca cb x (y+l.length) (algn s (wideSum (clus (runes s))) w al) (txK W H f g bd cx cy ca cb x w al l y c)
 |[],s,y,c=>by show wrL W H f g bd cx cy ca cb x y _ _=wrL W H f g bd cx cy ca cb x (y+0) _ _;rw[Int.add_zero];rfl
 |p::l,s,y,c=>by show txK W H f g bd cx cy ca cb x w al (l++[s]) (y+1) _=_;rw[txK_snoc x w al l s,show(y+((p::l).length:Int))=y+1+l.length by simp;omega];rfl
theorem txK_keep{P:(Nat->Nat->Ce)->Prop}(x w al:Int):∀(l:List (List UInt8)) (y:Int) (c:Nat->Nat->Ce),(∀y s c,P c->P (wrL W H f g bd cx cy ca cb x y s c))->P c->P (txK W H f g bd cx cy ca cb x w al l y c)
 |[],_,_,_,h=>h
 |s::r,y,c,hs,h=>txK_keep x w al r _ _ hs (hs _ _ _ h)
end
theorem linesOf_any(kd a0 a1 a2 a3 a4 a5 a6 a7 a8 a9 b0 b1 up:Int)(tx:ByteArray)(kv:Value)(w:Int)(W:World)(ht:TabAt W)(hs:tx.size≤100000)(hw:0≤w∧w≤100000):
 Calls prog 68 #[ndA kd a0 a1 a2 a3 a4 a5 a6 a7 a8 a9 b0 b1 tx kv up,Iq w] W fun e W'=>∃v,e=.returned v∧W'.ownsRow W.heap.size 9 1 v (txtL tx.data.toList a8 w).length (sCells (txtL tx.data.toList a8 w))∧Below W.heap.size W W':=by
 by_cases h8:a8=1;·subst h8;exact linesOf_wrap kd a0 a1 a2 a3 a4 a5 a6 a7 a9 b0 b1 up tx kv w W ht hs hw
 ·exact linesOf_cut kd a0 a1 a2 a3 a4 a5 a6 a7 a8 a9 b0 b1 up tx kv w W ht hs hw h8
theorem str_own{W:World}{B:Nat}{v:Value}{ls:List (List UInt8)}(h:W.ownsRow B 9 1 v ls.length (sCells ls)):∃p c,v=.slice p ls.length c∧ls.length≤c∧(ls.length=0∨∃g,p=some ⟨g,0,none⟩∧B≤g∧g<W.heap.size∧∀k (hk:k<ls.length),W.cell? ⟨g,k,none⟩=some (.string ⟨ls[k].toArray⟩)):=by
 rcases h.2 with⟨rfl,hz⟩|⟨g,cap,cur,rfl,hb,hg,hc,_⟩;·exact⟨none,0,by rw[hz],by omega,.inl hz⟩
 ·refine⟨some ⟨g,0,none⟩,cap,rfl,hc,.inr ⟨g,rfl,hb,(Array.getElem?_eq_some_iff.1 hg).1,fun k hk=>?_⟩⟩;have a0:=h.cells (g:=g) rfl k (.string ⟨ls[k].toArray⟩) (by unfold sCells;rw[List.getElem?_map,List.getElem?_eq_getElem hk];rfl);have e0:(⟨g,0,none⟩:Addr).add k=⟨g,k,none⟩:=by unfold Addr.add;split<;>simp_all
  rw[e0]at a0;exact a0
section
variable{K M cap W H:Nat} {c:Nat->Nat->Ce}
theorem paintText_any(U0 w0:World)(h:CS 89 34 w0 K M cap W H c)(hW:1≤W∧W≤400)(hH:1≤H∧H≤400)(hp:PAll W H c)(ht:TabAt U0)(hU:Below U0.heap.size U0 w0)(hM:U0.heap.size≤M)(f g bd cx cy ca cb:Int)(kd a0 a1 a2 a3 a4 a5 a6 a7 a8 a9 b0 b1 up:Int)(tx:ByteArray)(kv:Value)(x y w hh:Int)(hs:tx.size≤100000)
 (hx:-100000000000≤x∧x≤100000000000) (hy:-100000000000≤y∧y≤100000000000) (hw:0≤w∧w≤100000) (hhh:0≤hh∧hh≤100000) (hcy:-1000000000000≤cy∧cy≤1000000000000) (hcb:-1000000000000≤cb∧cb≤1000000000000):
 Calls prog 36 #[brv K f g bd cx cy ca cb,ndA kd a0 a1 a2 a3 a4 a5 a6 a7 a8 a9 b0 b1 tx kv up,rv x y w hh] w0 fun e w'=>e=.returned (.tuple #[])∧Cv 34 w' M W H (txK W H f g bd cx cy ca cb x w a7 ((txtL tx.data.toList a8 w).take hh.toNat) y c)∧Chm M w0 w':=by
 have hmix:prog.follows .mixedOrders=true:=by kernel_rfl
 have hMl:=h.cv.lt;obtain⟨A,hA⟩:=nmd w0.heap.size;obtain⟨W3,hW3⟩:=nmd (((w0.alloc (.cells #[Pq K,Iq f,Iq g,Iq bd,Iq cx,Iq cy,Iq ca,Iq cb] 58)).alloc (.cells #[Iq kd,Iq a0,Iq a1,Iq a2,Iq a3,Iq a4,Iq a5,Iq a6,Iq a7,Iq a8,Iq a9,Iq b0,Iq b1,.string tx,kv,Iq up] 61)).alloc (.cells #[Iq x,Iq y,Iq w,Iq hh] 56));have HB3:Hid (Below w0.heap.size w0 W3):=by rw[<-hW3];exact((((Gr.refl w0).alloc _).alloc _).alloc _).below
 have hb3:W3.heap[A]?=some (.cells #[Pq K,Iq f,Iq g,Iq bd,Iq cx,Iq cy,Iq ca,Iq cb] 58 (0,0)):=by rw[<-hW3,<-hA,Below.heap_alloc _ _ _ (by rw[World.size_alloc,World.size_alloc];omega),Below.heap_alloc _ _ _ (by rw[World.size_alloc];omega)];exact heap_alloc_new _ _
 have hn3:W3.heap[A+1]?=some (.cells #[Iq kd,Iq a0,Iq a1,Iq a2,Iq a3,Iq a4,Iq a5,Iq a6,Iq a7,Iq a8,Iq a9,Iq b0,Iq b1,.string tx,kv,Iq up] 61 (0,0)):=by rw[<-hW3,<-hA,Below.heap_alloc _ _ _ (by rw[World.size_alloc,World.size_alloc];omega),<-World.size_alloc];exact heap_alloc_new _ _
 have hr3:W3.heap[A+1+1]?=some (.cells #[Iq x,Iq y,Iq w,Iq hh] 56 (0,0)):=by rw[<-hW3,<-hA,<-World.size_alloc,<-World.size_alloc];exact heap_alloc_new _ _
 have HZ3:Hid (A+1+1<W3.heap.size):=(Array.getElem?_eq_some_iff.1 hr3).1;have HMA:Hid (M<A):=by rw[<-hA];exact hMl
 have HS:Hid (∀u,Chm M W3 u->u.cell? ⟨A,0,none⟩=some (Pq K)∧u.cell? ⟨A,1,none⟩=some (Iq f)∧u.cell? ⟨A,2,none⟩=some (Iq g)∧u.cell? ⟨A,3,none⟩=some (Iq bd)∧u.cell? ⟨A,4,none⟩=some (Iq cx)∧u.cell? ⟨A,5,none⟩=some (Iq cy)∧u.cell? ⟨A,6,none⟩=some (Iq ca)∧u.cell? ⟨A,7,none⟩=some (Iq cb)∧u.cell? ⟨A+1+1,0,none⟩=some (Iq x)∧u.cell? ⟨A+1+1,1,none⟩=some (Iq y)∧u.cell? ⟨A+1+1,2,none⟩=some (Iq w)∧u.cell? ⟨A+1+1,3,none⟩=some (Iq hh)∧u.cell? ⟨A+1,8,none⟩=some (Iq a7)):=fun u hu=>by
  have e1:=(hu.block A (by have:=HZ3.out;omega) (by have:=HMA.out;omega)).trans hb3;have e2:=(hu.block (A+1) (by have:=HZ3.out;omega) (by have:=HMA.out;omega)).trans hn3;have e3:=(hu.block (A+1+1) HZ3 (by have:=HMA.out;omega)).trans hr3;refine⟨?_,?_,?_,?_,?_,?_,?_,?_,?_,?_,?_,?_,?_⟩;all_goals first
   |(rw[Lib.cell_of_heap e1];rfl)
   |(rw[Lib.cell_of_heap e2];rfl)
   |(rw[Lib.cell_of_heap e3];rfl)
 have HN:Hid (∀(k:Nat) v,(#[Iq kd,Iq a0,Iq a1,Iq a2,Iq a3,Iq a4,Iq a5,Iq a6,Iq a7,Iq a8,Iq a9,Iq b0,Iq b1,.string tx,kv,Iq up]:Array Value)[k]?=some v->W3.cell? ⟨A+1,k,none⟩=some v):=fun k v hv=>by rw[Lib.cell_of_heap hn3];exact hv
 obtain⟨z0,z1,z2,z3,z4,z5,z6,z7,r0,r1,r2,r3,_⟩:=HS W3 (Chm.refl _ _);have n0:W3.cell? ⟨A+1,0,none⟩=some (Iq kd):=HN 0 _ rfl;have n1:=HN 1 _ rfl;have n2:=HN 2 _ rfl;have n3:=HN 3 _ rfl;have n4:=HN 4 _ rfl;have n5:=HN 5 _ rfl;have n6:=HN 6 _ rfl;have n7:=HN 7 _ rfl;have n8:=HN 8 _ rfl;have n9:=HN 9 _ rfl;have n10:=HN 10 _ rfl;have n11:=HN 11 _ rfl;have n12:=HN 12 _ rfl;have n13:=HN 13 _ rfl;have n14:=HN 14 _ rfl;have n15:=HN 15 _ rfl;have hU3:Below U0.heap.size U0 W3:=hU.trans (HB3.mono hU.size);have HU3:=qH hU3;have HT:=qH ht;have HCS:=qH h;have HP:=qH hp;have LO:Hid (Calls prog 68 #[ndA kd a0 a1 a2 a3 a4 a5 a6 a7 a8 a9 b0 b1 tx kv up,Iq w] W3 fun e W'=>∃v,e=.returned v∧Hid (W'.ownsRow W3.heap.size 9 1 v (txtL tx.data.toList a8 w).length (sCells (txtL tx.data.toList a8 w)))∧Below W3.heap.size W3 W'):=linesOf_any kd a0 a1 a2 a3 a4 a5 a6 a7 a8 a9 b0 b1 up tx kv w W3 (ht.below hU3) hs hw;have HTL:Hid (∀s∈txtL tx.data.toList a8 w,s.length≤3000000):=txtL_len _ _ _ (by rw[Array.length_toList];exact hs) hw.2;obtain⟨ls,hls⟩:=nmd (txtL tx.data.toList a8 w);rw[hls]at LO HTL⊢;obtain⟨m,hm⟩:=nmd (min ls.length hh.toNat);have hmI:min (ls.length:Int) hh=(m:Int):=by omega
 have hm1:m≤ls.length:=by omega
 have HTK:Hid (ls.take hh.toNat=ls.take m):=by show _=_;rw[<-hm,List.take_eq_take_iff];omega
 rw[HTK.out];clear hls hm ht hU hU3 h hp hb3 hn3 hr3;unfold brv rv;unfold ndA at LO⊢;go_enter func36,ntmps36;go_wp2_with fail;clear hW3 hA;refine LO.mono ?_;rintro e w2 ⟨v,rfl,HL,b2⟩;obtain⟨p,cp,rfl,hcp,hlc⟩:=str_own HL.out;have HLC:=qH hlc;have HC2:Hid (Chm M W3 w2):=Chm.below b2;obtain⟨y0,y1,y2,y3,y4,y5,y6,y7,q0,q1,q2,q3,q4⟩:=HS w2 HC2;have HV2:Hid (Cv 34 w2 M W H c):=HCS.cv.keep ((b2.block M (by have:=HMA.out;have:=HZ3.out;omega)).trans (HB3.block M hMl));clear LO HL hlc b2 z0 z1 z2 z3 z4 z5 z6 z7 r0 r1 r2 r3 n0 n1 n2 n3 n4 n5 n6 n7 n8 n9 n10 n11 n12 n13 n14 n15 HN;have hm2:m≤cp:=by omega
 go_wp2;go_loopw[21] (fun iv wr=>∃k:Nat,k≤m∧iv=Iq k∧Hid (Cv 34 wr M W H (txK W H f g bd cx cy ca cb x w a7 (ls.take k) y c))∧Hid (Chm M w2 wr)) (fun iv _=>m-(intOf iv).toNat);case atStart=>exact⟨0,Nat.zero_le _,rfl,HV2,Chm.refl _ _⟩
 case round=>
  obtain⟨k,hk,rfl,HV,HC⟩:=hrel;by_cases hlt:k<m
  ·have hlt':(k:Int)<(m:Int):=by omega
   obtain⟨gb,rfl,hg1,hg2,hg⟩:=HLC.resolve_left (by omega);have hkl:k<ls.length:=by omega
   obtain⟨s,hse⟩:=nmd ls[k];have hsl:s.length≤3000000:=by rw[<-hse];exact HTL _ (List.getElem_mem hkl)
   obtain⟨al,hal⟩:=nmd (algn s (wideSum (clus (runes s))) w a7);have hwl:=wideSum_bd _ (clus_wide (runes s)) (clus (runes s)).length;rw[List.take_length]at hwl;have hcl:=clus_length (runes s);have hrl:=runes_length s;have hall:al.length≤100000000:=by rw[<-hal];have:=algn_len s (wideSum (clus (runes s))) w a7;omega
   have c0:wr.cell? ⟨gb,k,none⟩=some (.string ⟨s.toArray⟩):=by rw[<-hse];exact(World.cell?_of_block (a:=⟨gb,k,none⟩) (HC.block gb hg2 (by have:=HMA.out;have:=HZ3.out;omega))).trans (hg k hkl)
   have HNX:Hid (txK W H f g bd cx cy ca cb x w a7 (ls.take (k+1)) y c=wrL W H f g bd cx cy ca cb x (y+k) al (txK W H f g bd cx cy ca cb x w a7 (ls.take k) y c)):=by show _=_;rw[List.take_succ_eq_append_getElem hkl,txK_snoc,hse,hal,List.length_take,Nat.min_eq_left (by omega)]
   have HTW:Hid (∀u,Chm M W3 u->TabAt u):=fun u hu=>HT.below (hu.low hM (Nat.le_trans HU3.size (Nat.le_refl _)) HU3);have HSZ:Hid (s.toArray.size=s.length∧al.toArray.size=al.length):=⟨by simp,by simp⟩;have AL:Hid (∀u,(u=wr∨u=wr.drew)->Calls prog 69 #[.string ⟨s.toArray⟩,Iq w,Iq a7] u fun e u'=>e=.returned (.string ⟨al.toArray⟩)∧Hid (Below wr.heap.size wr u')):=fun u hu=>by
    have hbu:Below wr.heap.size wr u:=by
     rcases hu with rfl|rfl;·exact Below.refl _ _
     ·exact(Below.refl _ _).drew
    refine(align_any ⟨s.toArray⟩ w a7 u (HTW u ((HC2.trans HC).trans (Chm.below hbu))) (by show s.toArray.size≤_;rw[HSZ.1];omega) (by omega) (by omega)).mono ?_;rintro e u' ⟨rfl,q⟩;exact⟨by rw[<-hal],hbu.trans (q.mono hbu.size)⟩
   have WR:Hid (∀u,Below wr.heap.size wr u->Calls prog 67 #[.agg #[Pq K,Iq f,Iq g,Iq bd,Iq cx,Iq cy,Iq ca,Iq cb],Iq x,Iq (y+k),.string ⟨al.toArray⟩] u fun e u'=>e=.returned (.tuple #[])∧Hid (Cv 34 u' M W H (txK W H f g bd cx cy ca cb x w a7 (ls.take (k+1)) y c))∧Hid (Chm M w2 u')):=fun u hu=>by have hwu:Chm M w2 u:=HC.trans (Chm.below hu);have hku:u.heap[K]?=w0.heap[K]?:=((HC2.trans hwu).block K (Nat.lt_of_lt_of_le HCS.klt HB3.size) HCS.ne).trans (HB3.block K HCS.klt);have hcs:CS 89 34 u K M cap W H (txK W H f g bd cx cy ca cb x w a7 (ls.take k) y c):=⟨hku.trans HCS.kb,HV.keep (hu.block M HV.lt),HCS.ne,HCS.hc⟩;have hpa:PAll W H (txK W H f g bd cx cy ca cb x w a7 (ls.take k) y c):=txK_keep W H f g bd cx cy ca cb (P:=PAll W H) x w a7 _ y c (fun y s c hc=>hc.wrL hW hH _ _ _ _ _ _ _ _ _ _) HP;refine(write_any u hcs hW hH hpa (HTW u (HC2.trans hwu)) x (y+k) f g bd cx cy ca cb ⟨al.toArray⟩ (by show al.toArray.size≤_;rw[HSZ.2];omega) (by omega) hcy hcb).mono ?_;rintro e u' ⟨rfl,q1,q2⟩;exact⟨rfl,by rw[HNX.out];exact q1,hwu.trans q2⟩
   obtain⟨x0,x1,x2,x3,x4,x5,x6,x7,t0,t1,t2,t3,t4⟩:=HS wr (HC2.trans HC);have hwy:IntKind.i64.wrap (y+(k:Int))=y+k:=IntWalk.i64_in _ (by omega);clear hg hse hal HNX HV HTW y0 y1 y2 y3 y4 y5 y6 y7 q0 q1 q2 q3 q4;go_wp2_with fail;go_region_held(fun W_=>W_.cell? ⟨A,0,none⟩=some (Pq K)∧W_.cell? ⟨A,1,none⟩=some (Iq f)∧W_.cell? ⟨A,2,none⟩=some (Iq g)∧W_.cell? ⟨A,3,none⟩=some (Iq bd)∧W_.cell? ⟨A,4,none⟩=some (Iq cx)∧W_.cell? ⟨A,5,none⟩=some (Iq cy)∧W_.cell? ⟨A,6,none⟩=some (Iq ca)∧W_.cell? ⟨A,7,none⟩=some (Iq cb)∧W_.cell? ⟨A+1+1,0,none⟩=some (Iq x)∧W_.cell? ⟨A+1+1,1,none⟩=some (Iq y)∧W_.cell? ⟨A+1+1,2,none⟩=some (Iq w)∧W_.cell? ⟨A+1+1,3,none⟩=some (Iq hh)∧W_.cell? ⟨A+1,8,none⟩=some (Iq a7)) (go_keep) (first
    |(go_at_call 69;refine Calls.mono (AL _ (by first|exact .inl rfl|exact .inr rfl)) ?_;rintro e u1 ⟨rfl,HU1⟩;obtain⟨d0,d1,d2,d3,d4,d5,d6,d7,e0,e1,e2,e3,e4⟩:=HS u1 ((HC2.trans HC).trans (Chm.below HU1)))
    |(go_at_call 67;refine Calls.mono (WR _ HU1) ?_;rintro e u2 ⟨rfl,HV5,HC5⟩;obtain⟨i0,i1,i2,i3,i4,i5,i6,i7,j0,j1,j2,j3,j4⟩:=HS u2 (HC2.trans HC5)));all_goals
    go_wp2;go_roundw;case rel=>exact⟨k+1,hlt,by go_num,HV5,HC5⟩
    case measure=>simp[intOf];omega
  ·have hlt':¬(k:Int)<(m:Int):=by omega
   obtain rfl:k=m:=by omega
   go_wp2;go_end0;exact⟨rfl,HV,(Chm.below HB3).trans (HC2.trans HC)⟩
end
end
section
open Go.RowKit Go.Sort Go.Proofs.Tryz
def pnF(W H:Nat)(f g bd cx cy ca cb kd a6 a7 a8 b0:Int)(t:List UInt8)(x y w hh:Int)(c:Nat->Nat->Ce):Nat->Nat->Ce:=
 if kd=3∧a6=1∧2≤w∧2≤hh then bdF W H f g bd cx cy ca cb x y w hh (if 0<b0 then filC W H c x y w hh f g bd cx cy ca cb else c)
 else if kd=5∧1≤w then txK W H f g bd cx cy ca cb x w a7 ((txtL t a8 w).take hh.toNat) y (if 0<b0 then filC W H c x y w hh f g bd cx cy ca cb else c)
 else if 0<b0 then filC W H c x y w hh f g bd cx cy ca cb else c
theorem pnF_keep{W H:Nat}{P:(Nat->Nat->Ce)->Prop}{f g bd cx cy ca cb kd a6 a7 a8 b0:Int}{t:List UInt8}{x y w hh:Int}{c:Nat->Nat->Ce}(hf:∀c,P c->P (filC W H c x y w hh f g bd cx cy ca cb))(hs:∀x y s c,P c->P (wrL W H f g bd cx cy ca cb x y s c))(h:P c):P (pnF W H f g bd cx cy ca cb kd a6 a7 a8 b0 t x y w hh c):=by
 have h1:P (if 0<b0 then filC W H c x y w hh f g bd cx cy ca cb else c):=by
  split;·exact hf _ h
  ·exact h
 unfold pnF;split;·exact bdF_keep W H f g bd cx cy ca cb _ _ _ _ _ hs h1
 ·split;·exact txK_keep W H f g bd cx cy ca cb _ _ _ _ _ _ (hs _) h1
  ·exact h1
section
variable{K M cap W H:Nat} {c:Nat->Nat->Ce}
theorem fil_any(w:World)(h:CS 89 34 w K M cap W H c)(hW:1≤W∧W≤400)(hH:1≤H∧H≤400)(hp:PAll W H c)(x y a b f g bd cx cy ca cb:Int):
 Calls prog 34 #[Pq K,rv x y a b,sv f g bd,rv cx cy ca cb] w fun e w'=>e=.returned (.tuple #[])∧Cv 34 w' M W H (filC W H c x y a b f g bd cx cy ca cb)∧Chm M w w':=
 cfill_any w h hW hH hp x y a b f g bd cx cy ca cb (seenQ W H x y a b cx cy ca cb).1 (seenQ W H x y a b cx cy ca cb).2.1 (seenQ W H x y a b cx cy ca cb).2.2.1 (seenQ W H x y a b cx cy ca cb).2.2.2 rfl
theorem paint_any(U0 w0:World)(h:CS 89 34 w0 K M cap W H c)(hW:1≤W∧W≤400)(hH:1≤H∧H≤400)(hp:PAll W H c)(ht:TabAt U0)(hU:Below U0.heap.size U0 w0)(hM:U0.heap.size≤M)(f g bd cx cy ca cb:Int)(kd a0 a1 a2 a3 a4 a5 a6 a7 a8 a9 b0 b1 up:Int)(tx:ByteArray)(kv:Value)(x y w hh:Int)(hs:tx.size≤100000)
 (hx:-100000000000≤x∧x≤100000000000) (hy:-100000000000≤y∧y≤100000000000) (hw:0≤w∧w≤100000) (hhh:0≤hh∧hh≤100000) (hcy:-1000000000000≤cy∧cy≤1000000000000) (hcb:-1000000000000≤cb∧cb≤1000000000000):
 Calls prog 16 #[brv K f g bd cx cy ca cb,ndA kd a0 a1 a2 a3 a4 a5 a6 a7 a8 a9 b0 b1 tx kv up,rv x y w hh] w0 fun e w'=>e=.returned (.tuple #[])∧Cv 34 w' M W H (pnF W H f g bd cx cy ca cb kd a6 a7 a8 b0 tx.data.toList x y w hh c)∧Chm M w0 w':=by
 have hMl:=h.cv.lt;obtain⟨A,hA⟩:=nmd w0.heap.size;obtain⟨W3,hW3⟩:=nmd (((w0.alloc (.cells #[Pq K,Iq f,Iq g,Iq bd,Iq cx,Iq cy,Iq ca,Iq cb] 58)).alloc (.cells #[Iq kd,Iq a0,Iq a1,Iq a2,Iq a3,Iq a4,Iq a5,Iq a6,Iq a7,Iq a8,Iq a9,Iq b0,Iq b1,.string tx,kv,Iq up] 61)).alloc (.cells #[Iq x,Iq y,Iq w,Iq hh] 56));have HB3:Hid (Below w0.heap.size w0 W3):=by rw[<-hW3];exact((((Gr.refl w0).alloc _).alloc _).alloc _).below
 have hb3:W3.heap[A]?=some (.cells #[Pq K,Iq f,Iq g,Iq bd,Iq cx,Iq cy,Iq ca,Iq cb] 58 (0,0)):=by rw[<-hW3,<-hA,Below.heap_alloc _ _ _ (by rw[World.size_alloc,World.size_alloc];omega),Below.heap_alloc _ _ _ (by rw[World.size_alloc];omega)];exact heap_alloc_new _ _
 have hn3:W3.heap[A+1]?=some (.cells #[Iq kd,Iq a0,Iq a1,Iq a2,Iq a3,Iq a4,Iq a5,Iq a6,Iq a7,Iq a8,Iq a9,Iq b0,Iq b1,.string tx,kv,Iq up] 61 (0,0)):=by rw[<-hW3,<-hA,Below.heap_alloc _ _ _ (by rw[World.size_alloc,World.size_alloc];omega),<-World.size_alloc];exact heap_alloc_new _ _
 have hr3:W3.heap[A+1+1]?=some (.cells #[Iq x,Iq y,Iq w,Iq hh] 56 (0,0)):=by rw[<-hW3,<-hA,<-World.size_alloc,<-World.size_alloc];exact heap_alloc_new _ _
 have HZ3:Hid (A+1+1<W3.heap.size):=(Array.getElem?_eq_some_iff.1 hr3).1;have HMA:Hid (M<A):=by rw[<-hA];exact hMl
 have HS:Hid (∀u,Chm M W3 u->(u.cell? ⟨A,0,none⟩=some (Pq K)∧u.cell? ⟨A,1,none⟩=some (Iq f)∧u.cell? ⟨A,2,none⟩=some (Iq g)∧u.cell? ⟨A,3,none⟩=some (Iq bd)∧u.cell? ⟨A,4,none⟩=some (Iq cx)∧u.cell? ⟨A,5,none⟩=some (Iq cy)∧u.cell? ⟨A,6,none⟩=some (Iq ca)∧u.cell? ⟨A,7,none⟩=some (Iq cb))∧(u.cell? ⟨A+1,0,none⟩=some (Iq kd)∧u.cell? ⟨A+1,1,none⟩=some (Iq a0)∧u.cell? ⟨A+1,2,none⟩=some (Iq a1)∧u.cell? ⟨A+1,3,none⟩=some (Iq a2)∧u.cell? ⟨A+1,4,none⟩=some (Iq a3)∧u.cell? ⟨A+1,5,none⟩=some (Iq a4)∧u.cell? ⟨A+1,6,none⟩=some (Iq a5)∧u.cell? ⟨A+1,7,none⟩=some (Iq a6)∧u.cell? ⟨A+1,8,none⟩=some (Iq a7)∧u.cell? ⟨A+1,9,none⟩=some (Iq a8)∧u.cell? ⟨A+1,10,none⟩=some (Iq a9)∧u.cell? ⟨A+1,11,none⟩=some (Iq b0)∧u.cell? ⟨A+1,12,none⟩=some (Iq b1)∧u.cell? ⟨A+1,13,none⟩=some (.string tx)∧u.cell? ⟨A+1,14,none⟩=some (kv)∧u.cell? ⟨A+1,15,none⟩=some (Iq up))∧u.cell? ⟨A+1+1,0,none⟩=some (Iq x)∧u.cell? ⟨A+1+1,1,none⟩=some (Iq y)∧u.cell? ⟨A+1+1,2,none⟩=some (Iq w)∧u.cell? ⟨A+1+1,3,none⟩=some (Iq hh)):=fun u hu=>by
  have e1:=(hu.block A (by have:=HZ3.out;omega) (by have:=HMA.out;omega)).trans hb3;have e2:=(hu.block (A+1) (by have:=HZ3.out;omega) (by have:=HMA.out;omega)).trans hn3;have e3:=(hu.block (A+1+1) HZ3 (by have:=HMA.out;omega)).trans hr3;refine⟨⟨?_,?_,?_,?_,?_,?_,?_,?_⟩,⟨?_,?_,?_,?_,?_,?_,?_,?_,?_,?_,?_,?_,?_,?_,?_,?_⟩,?_,?_,?_,?_⟩;all_goals first
   |(rw[Lib.cell_of_heap e1];rfl)
   |(rw[Lib.cell_of_heap e2];rfl)
   |(rw[Lib.cell_of_heap e3];rfl)
 obtain⟨⟨z0,z1,z2,z3,z4,z5,z6,z7⟩,⟨n0,n1,n2,n3,n4,n5,n6,n7,n8,n9,n10,n11,n12,n13,n14,n15⟩,r0,r1,r2,r3⟩:=HS W3 (Chm.refl _ _);have hU3:Below U0.heap.size U0 W3:=hU.trans (HB3.mono hU.size);have HUU:Hid (∀u,Chm M W3 u->Below U0.heap.size U0 u):=fun u hu=>hu.low hM hU3.size hU3;have HCS:Hid (∀c1 u,Chm M W3 u->Cv 34 u M W H c1->CS 89 34 u K M cap W H c1):=fun c1 u hu hv=>⟨((hu.block K (Nat.lt_of_lt_of_le h.klt HB3.size) h.ne).trans (HB3.block K h.klt)).trans h.kb,hv,h.ne,h.hc⟩;have HV3:Hid (Cv 34 W3 M W H c):=h.cv.keep (HB3.block M hMl);obtain⟨c1,hc1⟩:=nmd (if 0<b0 then filC W H c x y w hh f g bd cx cy ca cb else c);have HP1:Hid (PAll W H c1):=by
  rw[<-hc1];show PAll W H (if 0<b0 then _ else c);split;·exact hp.filX hW hH _ _ _ _ _ _ _ _ _ _ _
  ·exact hp
 have PBc:Hid (2≤w->2≤hh->∀u,Chm M W3 u->Cv 34 u M W H c1->Calls prog 35 #[brv K f g bd cx cy ca cb,rv x y w hh] u fun e u'=>e=.returned (.tuple #[])∧Hid (Cv 34 u' M W H (bdF W H f g bd cx cy ca cb x y w hh c1))∧Hid (Chm M W3 u')):=fun q1 q2 u hu hv=>(paintBorder_any U0 u (HCS c1 u hu hv) hW hH HP1 ht (HUU u hu) hM f g bd cx cy ca cb x y w hh hx hy (by omega) (by omega) hcy hcb).mono fun e u' ⟨h1,h2,h3⟩=>⟨h1,h2,hu.trans h3⟩;have PTc:Hid (∀u,Chm M W3 u->Cv 34 u M W H c1->Calls prog 36 #[brv K f g bd cx cy ca cb,ndA kd a0 a1 a2 a3 a4 a5 a6 a7 a8 a9 b0 b1 tx kv up,rv x y w hh] u fun e u'=>e=.returned (.tuple #[])∧Hid (Cv 34 u' M W H (txK W H f g bd cx cy ca cb x w a7 ((txtL tx.data.toList a8 w).take hh.toNat) y c1))∧Hid (Chm M W3 u')):=fun u hu hv=>(paintText_any U0 u (HCS c1 u hu hv) hW hH HP1 ht (HUU u hu) hM f g bd cx cy ca cb kd a0 a1 a2 a3 a4 a5 a6 a7 a8 a9 b0 b1 up tx kv x y w hh hs hx hy hw hhh hcy hcb).mono fun e u' ⟨h1,h2,h3⟩=>⟨h1,h2,hu.trans h3⟩;have FI:Hid (0<b0->Calls prog 34 #[Pq K,rv x y w hh,sv f g bd,rv cx cy ca cb] W3 fun e u'=>e=.returned (.tuple #[])∧Hid (Cv 34 u' M W H c1)∧Hid (Chm M W3 u')):=fun hb=>by rw[<-hc1,if_pos hb];exact fil_any W3 (HCS c W3 (Chm.refl _ _) HV3) hW hH hp x y w hh f g bd cx cy ca cb
 have HN1:Hid (¬0<b0->c1=c):=fun hb=>by rw[<-hc1,if_neg hb]
 have hcase:((kd==3)=true∧(a6==1)=true∧2≤w∧2≤hh∧Hid (pnF W H f g bd cx cy ca cb kd a6 a7 a8 b0 tx.data.toList x y w hh c=bdF W H f g bd cx cy ca cb x y w hh c1))∨((kd==3)=true∧(kd==5)=false∧(a6==1)=true∧2≤w∧¬2≤hh∧Hid (pnF W H f g bd cx cy ca cb kd a6 a7 a8 b0 tx.data.toList x y w hh c=c1))∨((kd==3)=true∧(kd==5)=false∧(a6==1)=true∧¬2≤w∧Hid (pnF W H f g bd cx cy ca cb kd a6 a7 a8 b0 tx.data.toList x y w hh c=c1))∨((kd==3)=true∧(kd==5)=false∧(a6==1)=false∧Hid (pnF W H f g bd cx cy ca cb kd a6 a7 a8 b0 tx.data.toList x y w hh c=c1))∨((kd==3)=false∧(kd==5)=true∧1≤w∧Hid (pnF W H f g bd cx cy ca cb kd a6 a7 a8 b0 tx.data.toList x y w hh c=txK W H f g bd cx cy ca cb x w a7 ((txtL tx.data.toList a8 w).take hh.toNat) y c1))∨((kd==3)=false∧(kd==5)=true∧¬1≤w∧Hid (pnF W H f g bd cx cy ca cb kd a6 a7 a8 b0 tx.data.toList x y w hh c=c1))∨((kd==3)=false∧(kd==5)=false∧Hid (pnF W H f g bd cx cy ca cb kd a6 a7 a8 b0 tx.data.toList x y w hh c=c1)):=by
  unfold pnF;rw[hc1];by_cases k3:kd=3
  ·have k5:¬kd=5:=by omega
   by_cases k6:a6=1
   ·by_cases kw:2≤w
    ·by_cases kh:2≤hh;·exact .inl ⟨by simpa using k3,by simpa using k6,kw,kh,if_pos ⟨k3,k6,kw,kh⟩⟩
     ·exact .inr (.inl ⟨by simpa using k3,by simpa using k5,by simpa using k6,kw,kh,(if_neg (by omega)).trans (if_neg (by omega))⟩)
    ·exact .inr (.inr (.inl ⟨by simpa using k3,by simpa using k5,by simpa using k6,kw,(if_neg (by omega)).trans (if_neg (by omega))⟩))
   ·exact .inr (.inr (.inr (.inl ⟨by simpa using k3,by simpa using k5,by simpa using k6,(if_neg (by omega)).trans (if_neg (by omega))⟩)))
  ·by_cases k5:kd=5
   ·by_cases kw:1≤w;·exact .inr (.inr (.inr (.inr (.inl ⟨by simpa using k3,by simpa using k5,kw,(if_neg (by omega)).trans (if_pos ⟨k5,kw⟩)⟩))))
    ·exact .inr (.inr (.inr (.inr (.inr (.inl ⟨by simpa using k3,by simpa using k5,kw,(if_neg (by omega)).trans (if_neg (by omega))⟩)))))
   ·exact .inr (.inr (.inr (.inr (.inr (.inr ⟨by simpa using k3,by simpa using k5,(if_neg (by omega)).trans (if_neg (by omega))⟩)))))
 obtain⟨cz,hcz⟩:=nmd (pnF W H f g bd cx cy ca cb kd a6 a7 a8 b0 tx.data.toList x y w hh c);rw[hcz]at hcase⊢;clear h hp ht hU hU3 hb3 hn3 hr3 hc1 hcz;unfold brv rv at PBc;unfold brv rv ndA at PTc;unfold sv rv at FI;unfold brv ndA rv;go_enter func16,ntmps16;by_cases hb:0<b0;focus go_wp2_with fail;clear hW3 hA;refine(FI hb).mono ?_;rintro e u1 ⟨rfl,HV1,HC1⟩;clear z0 z1 z2 z3 z4 z5 z6 z7 n0 n1 n2 n3 n4 n5 n6 n7 n8 n9 n10 n11 n12 n13 n14 n15 r0 r1 r2 r3;obtain⟨⟨z0,z1,z2,z3,z4,z5,z6,z7⟩,⟨n0,n1,n2,n3,n4,n5,n6,n7,n8,n9,n10,n11,n12,n13,n14,n15⟩,r0,r1,r2,r3⟩:=HS u1 HC1
 rotate_left;focus
  have HV1:Hid (Cv 34 W3 M W H c1):=by rw[HN1 hb];exact HV3
  have HC1:Hid (Chm M W3 W3):=Chm.refl _ _
 all_goals
  rcases hcase with⟨k1,k2,k3,k4,HE⟩|⟨k1,k0,k2,k3,k4,HE⟩|⟨k1,k0,k2,k3,HE⟩|⟨k1,k0,k2,HE⟩|⟨k1,k2,k3,HE⟩|⟨k1,k2,k3,HE⟩|⟨k1,k2,HE⟩;all_goals
   go_wp2_with(first|(go_at_call 35;refine Calls.mono (PBc k3 k4 _ HC1 HV1) ?_;rintro e u2 ⟨rfl,HV2,HC2⟩)|(go_at_call 36;refine Calls.mono (PTc _ HC1 HV1) ?_;rintro e u2 ⟨rfl,HV2,HC2⟩));go_end0;first
    |exact⟨rfl,by rw[HE.out];exact HV2,(Chm.below HB3).trans HC2⟩
    |exact⟨rfl,by rw[HE.out];exact HV1,(Chm.below HB3).trans HC1⟩
end
end
end Go.Proofs.YtmbefonnkkhfgaaGreatDoor
