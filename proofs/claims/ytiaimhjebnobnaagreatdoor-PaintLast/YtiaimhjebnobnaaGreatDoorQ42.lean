import Derived.CallsIn
import Derived.OrdersIn
import Derived.OrdersHeld
import Derived.TacticsIn
import Derived.RangeFuncCalls
import Derived.Deep.RegionHeld
import Derived.Test.YtiaimhjebnobnaaGreatDoorQ00
import Derived.Lib.Bytealg
import Derived.Test.YtiaimhjebnobnaaGreatDoorQ40
import Derived.Test.YtiaimhjebnobnaaGreatDoorQ01
import Derived.Test.YtiaimhjebnobnaaGreatDoorQ36
import Derived.Test.YtiaimhjebnobnaaGreatDoorQ35
set_option linter.all false
set_option maxRecDepth 100000
set_option maxHeartbeats 16000000
namespace Go.Proofs.YtiaimhjebnobnaaGreatDoor
open Go.RowKit Go.Sort Go.Proofs.Tryz
section
open Go
def uk(o:Oper):Bool:=match o.op with|.defer _=>false|_=>true
theorem Qn{P}{vL}{Q}{n l i}{K K'}{a}{w}(hd:vL.all uk=true)(hL:¬LetsOut Q)(hK:∀a w,K a w->K' a w)(h:wpOp P vL Q i K a w):wpOpIn (Fence.wide.inRound l) n P vL Q i K' a w:=by
 unfold wpOp at h;unfold wpOpIn;cases ho:vL[i]? with
 |none=>rw[ho]at h;exact hK _ _ h
 |some o=>
  rw[ho]at h;dsimp only at h⊢;have hn:∀c,o.op≠.defer c:=fun c hc=>by grind[uk]
  split at h
  ·rename_i hw;rw[if_pos hw];rcases h with h|⟨_,h⟩;case inr=>exact absurd h hL
   refine⟨fun _ _=>trivial,?_⟩;show o.uponIn _ n P a K' Q ((Oper.semAt (some l) a.eval o).run P w);rw[Oper.semAt_some l a.eval o hn];unfold Oper.wp at h;generalize(execOp a.eval o).run P w=r at*;cases r with
   |ok x w'=>
    cases x<;>simp only[Oper.upon,Oper.uponIn]at h⊢;case value u=>grind
    case skip=>grind
    case defer d=>grind
    case enter f args=>refine⟨fun q=>(by cases q),CallsIn.inRound l (callsIn_wide.2 (ao h fun e w'' he=>?_))⟩;grind
    case row row args=>refine⟨fun q=>(by cases q),fun c cs _=>?_⟩;obtain⟨v,w',r,s⟩:=h c cs;exact⟨v,w',hK _ _ r,stepsIn_wide.2 s⟩
   |halt x w'=>cases x<;>simp only[Oper.upon,Oper.uponIn]at h⊢;omega
  ·rename_i hw;rw[if_neg hw];exact⟨fun _ _=>trivial,hK _ _ h⟩
theorem yg{P}{vL}{Q}{n l}{md}(hd:vL.all uk=true)(hL:¬LetsOut Q):∀  fuel   P8   a   w,wpAny P md vL Q fuel P8 a w->wpAnyIn (Fence.wide.inRound l) n P md vL Q fuel P8 a w
 |0,_,_,_,h=>h
 |fuel+1,_,_,_,h=>⟨h.1,fun i hi=>Qn hd hL (fun a w=>yg hd hL fuel _ a w) (h.2 i hi)⟩
theorem AP{P}{vL}{Q}{n l id}{S}{a}{w}(hd:vL.all uk=true)(hL:¬LetsOut Q)(hm:P.follows .mixedOrders=true)(hS:S w.drew)(h:S w.drew->wpAnyH P .any vL Q S vL.size (Array.replicate vL.size false) a w.drew):(Code.region id vL true).wpIn (Fence.wide.inRound l) n P Q a w:=
 wpIn_region_any hm (yg hd hL _ _ _ _ (wpAny_of_held _ _ _ _ (h hS)))
end
section
open Go.Shelf
attribute[local go_sem] Oper.semAt_some
theorem sD:∀  t,(Lib.indexByte t 10=-1/\∀x∈t,x≠10)\/∃a b,t=a++10::b/\(∀x∈a,x≠10)/\Lib.indexByte t 10=(a.length:Int)
 |[]=>.inl ⟨rfl,fun x hx=>by cases hx⟩
 |c::t=>by
  by_cases e:c=10;·right;refine⟨[],t,by rw[e];rfl,fun x hx=>(by cases hx),?_⟩;unfold Lib.indexByte;rw[e];rfl
  ·have e2:(c==(10:UInt8))=false:=by simpa using e
   rcases sD t with⟨h1,h2⟩|⟨a,b,h1,h2,h3⟩
   ·left;refine⟨?_,fun x hx=>?_⟩;·unfold Lib.indexByte;grind
    grind
   ·right;refine⟨c::a,b,by grind,fun x hx=>?_,?_⟩;·grind
    ·unfold Lib.indexByte;grind
theorem xK(s:ByteArray)(c:Int)(w:World):Cw 251 #[.string s,.int .u8 c] w fun e w'=>e=Rw (Iq (Lib.indexByte s.data.toList c.toNat.toUInt8))/\w'=w:=by go_enter func251,ntmps251;go_wp2;rw[run_callFunc_extern func264 (by kernel_rfl) (by kernel_rfl) (by kernel_rfl) (e:=Extern.BytealgIndexByte.indexByte) (by kernel_rfl),Lib.run_indexByteString];simp only[Result.andThen];rw[Oper.upon_value];go_wp2;go_ret;simp_all
theorem Ly(s:ByteArray)(w:World):Cw 238 #[.string s,.string ⟨#[10]⟩] w fun e w'=>e=Rw (Iq (Lib.indexByte s.data.toList 10))/\w'=w:=by
  have C:Hid (∀w,Cw 251 #[.string s,.int .u8 10] w fun e w'=>e=Rw (Iq (Lib.indexByte s.data.toList 10))/\w'=w):=fun w=>xK s 10 w;have ga:(({data:=#[10]}:ByteArray)[0]'(by show 0<1;omega))=10:=rfl;go_enter func238,ntmps238;go_wp2_with(go_at_call 251;refine(C _).mono ?_;rintro e w5 ⟨rfl,rfl⟩);all_goals
    go_ret;first
      |exact⟨rfl,rfl⟩
      | (refine⟨?_,rfl⟩;have h:([10]==s.toList)=true:=by assumption
         have e:s.data.toList=[10]:=by rw[<-Lib.toList_data];exact(beq_iff_eq.1 h).symm
         rw[e];rfl)
theorem Py(s:ByteArray)(w:World):Cw 222 #[.string s,.string ⟨#[10]⟩] w fun e w'=>e=Rw (Iq (Lib.indexByte s.data.toList 10))/\w'=w:=by have C:=qH<|fun w=>Ly s w;go_enter func222,ntmps222;go_wp2_with(go_at_call 238;refine(C _).mono ?_;rintro e w5 ⟨rfl,rfl⟩);go_ret;simp_all
def mj(b0 b1 b2:Nat)(W W':World):Prop:=W'.heap[b0]?=W.heap[b0]?/\W'.heap[b1]?=W.heap[b1]?/\W'.heap[b2]?=W.heap[b2]?
theorem mj.trans{b0 b1 b2}{A B C}(h:mj b0 b1 b2 A B)(k:mj b0 b1 b2 B C):mj b0 b1 b2 A C:=⟨k.1.trans h.1,k.2.1.trans h.2.1,k.2.2.trans h.2.2⟩
def Mm(t:List UInt8):Array Value:=#[.string ⟨t.toArray⟩]
def Qb(b:Nat)(W:World):Nat:=match W.cell? (az b 0)with
 |some (.string s)=>s.size
 |_=>0
theorem OC(a b:List UInt8)  n  (hn:n=a.length):(⟨(a++b).toArray⟩:ByteArray).extract 0 n=⟨a.toArray⟩:=by subst hn;apply nh;simp_all
theorem KG(a b:List UInt8)  n k  (hn:n=a.length) (hk:k=(a++b).length):(⟨(a++b).toArray⟩:ByteArray).extract n k=⟨b.toArray⟩:=by subst hn;subst hk;apply nh;simp_all
theorem qD(n:Nat)(hn:3<=n)(Bp Bs Bv:Nat)(t:List UInt8)(ht:t.length<=1000000)(W0:World)(Gt:Bp≠Bs)(hvs:Bv≠Bs)
 (hp:W0.heap[Bp]?=some (.cells #[.string ⟨#[10]⟩] 9 (0,0))) (hs:W0.heap[Bs]?=some (.cells #[.string ⟨t.toArray⟩] 9 (0,0))) (hv:W0.heap[Bv]?=some (.cells #[Iq 0] 3 (0,0))):
 NI Fence.wide n prog 220 #[Pq Bp,Pq Bs,Pq Bv] Mm Bs (mj Bp Bs Bv) (fun xs=>xs=bQ t) (fun x=>x.length<=t.length) (t.length+1) W0:=by
 intro k0 J W hW hJ hY h0;have Pj:=(hW.block Bp (aM.1 hp).1).trans hp;have hs1:=(hW.block Bs (aM.1 hs).1).trans hs;have oB:=(hW.block Bv (aM.1 hv).1).trans hv;have xr:Hid (W.heap[Bp]?=some (.cells #[.string ⟨#[10]⟩] 9 (0,0))/\W.heap[Bs]?=some (.cells #[.string ⟨t.toArray⟩] 9 (0,0))/\W.heap[Bv]?=some (.cells #[Iq 0] 3 (0,0))):=⟨Pj,hs1,oB⟩;have cp:W.cell? (az Bp 0)=some (.string ⟨#[10]⟩):=by simp[World.cell?,Pj]
 have HJ:=qH<|hJ;have HY:Hid (∀pre x W1,J pre W1->pre.length<t.length+1->x.length<=t.length->YieldAt Fence.wide (n-1) prog k0 (Mm x) W1 fun e W'=>e=.returned (.bool true)/\J (pre++[x]) W'/\mj Bp Bs Bv W1 W'):=hY;have Ya:Hid ((bQ t).length<=t.length+1):=by have h1:=iG t;have h2:=R_ (a:=(10:UInt8)) (l:=t);show _<=_;omega
 have HJ0:=qH<|h0;clear hp hs hv Pj hs1 oB hJ hY h0;refine callsIn_of_wp func220 rfl trivial ?_ rfl;simp only[ntmps220,lp,e_,iA,Nat.reduceAdd,Nat.reduceSub,tf,tg,th,ti,tj,oK];gi_wp2;gi_loopw[7] (fun _ wr=>∃(x:List UInt8) (pre:List (List UInt8)),Hid (pre++bQ x=bQ t)/\x.length<=t.length/\Hid (wr.heap[Bp]?=some (.cells #[.string ⟨#[10]⟩] 9 (0,0))/\wr.heap[Bs]?=some (.cells #[.string ⟨x.toArray⟩] 9 (0,0))/\wr.heap[Bv]?=some (.cells #[Iq 0] 3 (0,0)))/\Hid (J pre wr)) (fun _ wr=>Qb Bs wr);case atStart=>exact⟨t,[],rfl,ai _,xr,HJ0⟩
 case round=>
  obtain⟨x,pre,je,UJ,HP,XV⟩:=hrel;clear cp xr HJ0;have BI:pre.length<t.length+1:=by have h1:=congrArg List.length je;rw[bm]at h1;have h2:=iG x;have h3:=Ya.out;omega
  have cp:wr.cell? (az Bp 0)=some (.string ⟨#[10]⟩):=by simp[World.cell?,HP.1]
  have cs:wr.cell? (az Bs 0)=some (.string ⟨x.toArray⟩):=by simp[World.cell?,HP.2.1]
  have cv:wr.cell? (az Bv 0)=some (Iq 0):=by simp[World.cell?,HP.2.2]
  have IX:Hid (Calls prog 222 #[.string ⟨x.toArray⟩,.string ⟨#[10]⟩] wr fun e w'=>e=.returned (Iq (Lib.indexByte x 10))/\w'=wr):=Py _ _;rcases sD x with⟨h1,h2⟩|⟨a,b,h1,h2,h3⟩;·rw[h1]at IX;have HX:=qH<|paras_one x h2;obtain⟨fn,tmps,assign,body,hy,hR⟩:=HY pre x wr XV BI UJ;dsimp only[Mm]at hy;have HR:=qH<|hR;clear hR h1 h2 HP;gi_wp2_with fail;refine⟨trivial,fun _=>by omega,(callsIn_wide.2 IX).mono ?_⟩;rintro e w5 ⟨rfl,qU⟩;obtain rfl:=qU.symm;clear IX;gi_wp2;refine⟨fun _=>by omega,HR.mono ?_⟩;rintro e W3 ⟨rfl,Ss,xF⟩;gi_wp2;go_end0;exact⟨⟨_,rfl⟩,_,by rw[<-je.out,HX.out],Ss⟩
  ·rw[h3]at IX;have HX:Hid (bQ x=a::bQ b):=by show _=_;rw[h1];exact rM a b h2
   have bY:x.length=a.length+1+b.length:=by rw[h1];simp;omega
   have oe:=XV.out;obtain⟨fn,tmps,assign,body,hy,hR⟩:=HY pre a wr XV BI (by omega);dsimp only[Mm]at hy;have HR:=qH<|hR;have f_:(⟨x.toArray⟩:ByteArray).size=x.length:=by simp[ByteArray.size]
   have e1:(⟨x.toArray⟩:ByteArray).extract 0 a.length=⟨a.toArray⟩:=by rw[h1];exact OC a (10::b) _ rfl
   have e2:(⟨x.toArray⟩:ByteArray).extract (a.length+1) (a.length+1+b.length)=⟨b.toArray⟩:=by rw[<-bY];rw[h1,show a++10::b=(a++[10])++b by simp];exact KG (a++[10]) b _ _ (by simp) rfl
   clear hR h1 h2 h3;gi_wp2_with fail;refine⟨trivial,fun _=>by omega,(callsIn_wide.2 IX).mono ?_⟩;rintro e w5 ⟨rfl,qU⟩;obtain rfl:=qU.symm;clear IX;gi_wp2;refine⟨fun _=>by omega,HR.mono ?_⟩;clear HR hy;rintro e W3 ⟨rfl,Ss,xF⟩;have Gs:=xF.1.trans HP.1;have hs3:=xF.2.1.trans HP.2.1;have hv3:=xF.2.2.trans HP.2.2;have cp3:W3.cell? (az Bp 0)=some (.string ⟨#[10]⟩):=by simp[World.cell?,Gs]
   have cs3:W3.cell? (az Bs 0)=some (.string ⟨x.toArray⟩):=by simp[World.cell?,hs3]
   have fs3:W3.frozen? (az Bs 0)=false:=frozen_of_row _ _ _ _ _ hs3;obtain⟨W4,MH⟩:=ag (W3.setCell (az Bs 0) (.string ⟨b.toArray⟩));have Nk:Hid (W4.heap[Bp]?=some (.cells #[.string ⟨#[10]⟩] 9 (0,0))/\W4.heap[Bs]?=some (.cells #[.string ⟨b.toArray⟩] 9 (0,0))/\W4.heap[Bv]?=some (.cells #[Iq 0] 3 (0,0))):=by rw[<-MH];exact⟨(cF _ (az Bs 0) _ Bp Gt).trans Gs,Boxed.set (t:=9) (.string ⟨b.toArray⟩) hs3,(cF _ (az Bs 0) _ Bv hvs).trans hv3⟩
   have HJ4:Hid (J (pre++[a]) W4):=by rw[<-MH];exact HJ _ _ _ _ Ss (grownBy_setCell' W3 Bs _) (.inr rfl)
   have zA:Hid ((pre++[a])++bQ b=bQ t):=by show _=_;rw[<-je.out,HX.out];simp
   have _t:Hid (Qb Bs W4=b.length):=by
    show _=_;have:W4.cell? (az Bs 0)=some (.string ⟨b.toArray⟩):=by simp[World.cell?,Nk.2.1]
    unfold Qb;rw[this];simp[ByteArray.size]
   have HMX:Hid (Qb Bs wr=x.length):=by show _=_;unfold Qb;rw[cs];exact f_
   clear Gs hs3 hv3 Ss xF cp cs cv HP XV oe;gi_wp2;go_roundw;case rel=>grind
   case measure=>rw[_t.out,HMX.out];omega
attribute[local go_sem] Oper.semAt_some
theorem splitSeq0_any(s:ByteArray)(W:World):
 Cw 189 #[.string s,.string ⟨#[10]⟩,Iq 0] W fun e w'=>e=Rw (.func (.func 220) #[] #[Pq (W.heap.size+1),Pq W.heap.size,Pq (W.heap.size+1+1)])/\w'=((W.alloc (.cells #[.string s] 9)).alloc (.cells #[.string ⟨#[10]⟩] 9)).alloc (.cells #[Iq 0] 3):=by go_enter func189,ntmps189;go_wp2;go_ret;simp_all
theorem qE(s:ByteArray)(W:World):
 Cw 154 #[.string s,.string ⟨#[10]⟩] W fun e w'=>e=Rw (.func (.func 220) #[] #[Pq (W.heap.size+1),Pq W.heap.size,Pq (W.heap.size+1+1)])/\w'=((W.alloc (.cells #[.string s] 9)).alloc (.cells #[.string ⟨#[10]⟩] 9)).alloc (.cells #[Iq 0] 3):=by have C:=qH<|splitSeq0_any s;go_enter func154,ntmps154;go_wp2_with(go_at_call 189;refine(C _).mono ?_;rintro e w5 ⟨rfl,rfl⟩);go_ret;simp_all
theorem yE{b0 b1 b2 B}(h0:b0<B)(h1:b1<B)(h2:b2<B)  W   l   x  (hl:B<=l):mj b0 b1 b2 W (W.putObj l x):=by have hg:=grownBy_putObj' W l x;have key:∀b,b<B->(W.putObj l x).heap[b]?=W.heap[b]?:=fun b hb=>World.putObj_heap_other (by omega);exact⟨key _ h0,key _ h1,key _ h2⟩
theorem TI  t  :0<=oS t/\oS t<=2*t.length:=by unfold oS;have h:=dO (aD t);have h1:=(cJ _ h (a_ (aD t)).length);grind[cE,aD,bK]
theorem Ie(s:ByteArray)(W:World)(ht:cG W)(hs:s.size<=4000):
 Calls prog 102 #[.string s] W fun e W'=>e=.returned (Iq (xX s.data.toList))/\Below W.heap.size W W':=by
 obtain⟨t,htt⟩:=ag s.data.toList;have hst:s=⟨t.toArray⟩:=by rw[<-htt]
 have uf:t.length<=4000:=by rw[<-htt,fV];exact hs
 rw[htt];subst hst;clear htt hs;refine(callsIn_wide (n:=6)).1 ?_;refine callsIn_of_wp_marks func102 rfl trivial ?_ rfl;simp only[ntmps102,lp,e_,iA,Nat.reduceAdd,Nat.reduceSub,tf,tg,th,ti,tj,oK];gi_wp2_with fail;refine⟨trivial,(callsIn_wide.2 (qE ⟨t.toArray⟩ _)).mono ?_⟩;rintro e w' ⟨rfl,rfl⟩;obtain⟨S,hS⟩:=ag W.heap.size;have bO:=Boxed.new W 3 (Iq 0);obtain⟨W0,cK⟩:=ag ((((W.alloc (.cells #[Iq 0] 3)).alloc (.cells #[.string ⟨t.toArray⟩] 9)).alloc (.cells #[.string ⟨#[10]⟩] 9)).alloc (.cells #[Iq 0] 3));have bO0:Boxed W0 S 3 (Iq 0):=by rw[<-cK,<-hS];exact((bO.alloc _).alloc _).alloc _
 have bS0:Boxed W0 (S+1) 9 (.string ⟨t.toArray⟩):=by rw[<-cK,<-hS];have:=Boxed.new (W.alloc (.cells #[Iq 0] 3)) 9 (.string ⟨t.toArray⟩);rw[aI]at this;exact(this.alloc _).alloc _
 have bP0:Boxed W0 (S+2) 9 (.string ⟨#[10]⟩):=by rw[<-cK,<-hS];have:=Boxed.new ((W.alloc (.cells #[Iq 0] 3)).alloc (.cells #[.string ⟨t.toArray⟩] 9)) 9 (.string ⟨#[10]⟩);rw[aI,aI]at this;exact this.alloc _
 have bV0:Boxed W0 (S+3) 3 (Iq 0):=by rw[<-cK,<-hS];have:=Boxed.new (((W.alloc (.cells #[Iq 0] 3)).alloc (.cells #[.string ⟨t.toArray⟩] 9)).alloc (.cells #[.string ⟨#[10]⟩] 9)) 3 (Iq 0);rw[aI,aI,aI]at this;exact this
 have su:Below W.heap.size W W0:=by rw[<-cK];exact((((Gr.refl W).alloc _).alloc _).alloc _).alloc _|>.below
 have f_:W0.heap.size=S+4:=by rw[<-cK];simp;omega
 rw[aI,cK];gi_wp2;rw[hS]at su;refine oH rfl (by omega) (gf:=220) (lb:=#[Pq (S+1+1),Pq (S+1),Pq (S+1+1+1)]) rfl trivial (enters_of func220 (by kernel_rfl) rfl)
  (qD 5 (by omega) (S+1+1) (S+1) (S+1+1+1) t (by omega) W0 (by omega) (by omega) bP0 bS0 bV0) (by omega) mj.trans (yE (by omega) (by omega) (by omega)) (aj _ _) (fun _=>rfl)
  (fun pre W'=>(Boxed W' S 3 (Iq (Qg (pre.map oS)))/\Below S W W')/\W0.heap.size<=W'.heap.size)
  (OwnFrom.and (OwnFrom.and (Own.from (boxed_own S 3 (fun pre:List (List UInt8)=>Iq (Qg (pre.map oS)))) _) (ownFrom_below (by omega) (by omega))) (fun _ _ _ _ h hg _=>aO h hg.size))
  (fun pre A B row ⟨h,h2⟩ hg hr=>⟨⟨h.1.kept hg (fun e=>by grind),h.2.grown hg (by omega) (fun q hq=>by grind)⟩,aO h2 hg.size⟩)
  ⟨⟨bO0,su⟩,ai _⟩
  (fun x a' W'=>a'={tmps:=#[.string ⟨t.toArray⟩,undef,Iq 0,Pq S,.string ⟨x.toArray⟩,.string ⟨t.toArray⟩,.func (.func 220) #[] #[Pq (S+1+1),Pq (S+1),Pq (S+1+1+1)],.string ⟨x.toArray⟩,undef,undef,undef,undef,undef],defers:=[]})
  (fun _ _ _ _ _ _ hs _ _=>hs)
  ?assign ?body ?done;case assign=>rintro k0 pre x W' K hI hK;dsimp only[Mm]at hK⊢;gi_wp2;exact hK _ _ (KeepsFrom.refl _ _) ⟨rfl,rfl,rfl⟩ hI rfl
 case body=>
  rintro k0 pre x a' W' ⟨⟨hv,hB⟩,hWl⟩ rfl hlt UJ;have hc:=hv.cell;have hf:=hv.frozen;have T8:=hB.size;have hxz:(⟨x.toArray⟩:ByteArray).size=x.length:=by simp[ByteArray.size]
  obtain⟨M,hM⟩:=ag (Qg (pre.map oS));have Ul:=TI x;obtain⟨y,hy⟩:=ag (oS x);have HSN:Hid (Qg ((pre++[x]).map oS)=max M y):=by show _=_;rw[np,List.map_cons,List.map_nil,DP,hM,hy]
  have CO:Hid (∀u,(u=W'\/u=W'.drew)->Calls prog 156 #[.string ⟨x.toArray⟩] u fun e u'=>e=.returned (Iq y)/\Hid (Below W'.heap.size W' u')/\u'.cell? (az S 0)=some (Iq M)/\u'.frozen? (az S 0)=false):=fun u hu=>by
   have iD:Below W'.heap.size W' u:=by
    rcases hu with rfl|rfl;·exact aj _ _
    ·exact(aj _ _).drew
   have BK:=(ht.below (w':=W') (by grind)).below iD;refine(sd ⟨x.toArray⟩ u BK (by rw[hxz];omega)).mono ?_;rintro e u' ⟨rfl,q⟩;have qS:=iD.trans (q.mono iD.size);refine⟨by rw[<-hy];rfl,qS,?_,?_⟩;·rw[<-hM];exact(qS.cell (p:=(az S 0)) hv.lt).trans hv.cell
   ·exact(qN (qS.block S hv.lt)).trans hv.frozen
  have iB:Hid (∀u,Below W'.heap.size W' u->zQ W0.heap.size (mj (S+1+1) (S+1) (S+1+1+1)) (fun pre W'=>(Boxed W' S 3 (Iq (Qg (pre.map oS)))/\Below S W W')/\W0.heap.size<=W'.heap.size) (pre++[x]) W' .normal {tmps:=#[],defers:=[]} (u.setCell (az S 0) (Iq (max M y)))):=fun u hu=>by
   have Gw:Boxed u S 3 (Iq (Qg (pre.map oS))):=(hu.block S hv.lt).trans hv;have key:∀b,b≠S->b<W'.heap.size->(u.setCell (az S 0) (Iq (max M y))).heap[b]?=W'.heap[b]?:=fun b hb hl=>(cF u (az S 0) _ b hb).trans (hu.block b hl);refine⟨⟨aO hu.size (by simp),fun k o hk ho _=>?_⟩,⟨key _ (by omega) (by omega),key _ (by omega) (by omega),key _ (by omega) (by omega)⟩,⟨by rw[HSN.out];exact Gw.set _,?_⟩,aO hWl (aO hu.size (by simp))⟩;·grind
   ·exact(hB.trans (hu.mono (by omega))).setCell (p:=(az S 0)) (ai _) _
  rw[hM]at hc;rw[hy]at Ul;have kD:prog.follows .mixedOrders=true:=by kernel_rfl
  clear hM hy hv hB;gi_wp2_with fail;gi_region_with_o(refine⟨trivial,(CallsIn.inRound k0 (callsIn_wide.2 (CO _ (by grind)))).mono ?_⟩;rintro e wq ⟨rfl,bq,cq,fq⟩);all_goals(gi_wp2_with fail)
  all_goals exact iB wq bq
 case done=>rintro D ys W' hD rfl ⟨⟨hv,hB⟩,hWl⟩ hK;have hc:=hv.cell;gi_wp2;refine⟨by simp,.inl ⟨_,_,rfl,run_takeDeferred hK,?_⟩⟩;exact⟨_,results_tmp rfl _ _ _,rfl,by rw[hS];exact hB.trans (belowK_b (w:=W) (by omega) W' D _ _ (by omega) hK rfl rfl)⟩
attribute[local go_sem] Oper.semAt_some
def eK(l:List (List UInt8)):List Value:=l.map fun r=>.string ⟨r.toArray⟩
theorem sR  l   x  :eK (l++[x])=eK l++[.string ⟨x.toArray⟩]:=by simp[eK]
def js(t:List UInt8)(wrap w:Int):List (List UInt8):=if wrap=1 then(bC (a_ (aD t)) w).map (·.T)else(bQ t).map fun p=>mc (one (a_ (aD p))) w
theorem rD:∀  ls   k  (hk:k<ls.length)  t   u,(cP ls[k])[t]?=some u->(iF ls)[k*5+t]?=some u
 |[],k,hk,_,_,_=>by grind
 |x::ls,0,_,t,u,h=>by grind[cP,iF]
 |x::ls,k+1,hk,t,u,h=>by have hl:(cP x).length=5:=rfl;show(cP x++iF ls)[(k+1)*5+t]?=_;rw[XI (by omega),hl,show(k+1)*5+t-5=k*5+t by omega];exact rD ls k (by grind) t u h
theorem Ee:(prog.info? 9).map (fun i=>(i.zero,i.size,i.bytes))=some (some (.string ⟨#[]⟩),1,16):=by kernel_rfl
def KpL(W W':World):Prop:=∀(j:Nat) (c:Array Value) (fz:Nat×Nat),W.heap[j]?=some (.cells c 231 fz)->W'.heap[j]?=some (.cells c 231 fz)
theorem VJ{W:World}{n₀ k}{v}{xs}(h:W.ownsRow n₀ 9 1 v k xs){j}{c}{t}{fz}(hj:W.heap[j]?=some (.cells c t fz))(ht:t≠9):some j≠v.ownBlock:=by
 rcases h.2 with⟨rfl,_⟩|⟨g,cap,ik,rfl,_,hg,_⟩;·simp[Value.ownBlock]
 ·intro e;obtain rfl:j=g:=by simpa[Value.ownBlock]using e
  grind
theorem UV{W w1}{n₀ B k}{v v'}{xs}{tmp}(hv:Boxed W B 78 v)(hrow:W.ownsRow n₀ 9 1 v k xs)(oz:(W.alloc tmp).grownBy w1 v.ownBlock):KpL W (w1.setCell (az B 0) v'):=fun j c fz e=>by
 have oe:=(aM.1 e).1;have hjB:j≠B:=by rintro rfl;rw[show W.heap[j]?=_ from hv]at e;cases e
 rw[cF w1 (az B 0) v' j hjB];exact(oz.block j (by rw[aI];omega) (VJ hrow e (by decide))).trans ((du _ _ _ oe).trans e)
theorem ZG{W:World}{B}{v}{ls}(h:W.ownsRow B 231 5 v ls.length (iF ls)):∃p c,v=.slice p ls.length c/\(ls.length=0\/∃g ik,p=some (az g 0)/\W.heap[g]?=some (.cells ik 231 (0,0))/\∀k (hk:k<ls.length)  t  u,(cP ls[k])[t]?=some u->W.cell? (az g (k*5+t))=some u):=by
 rcases h.2 with⟨rfl,hz⟩|⟨g,cap,ik,rfl,_,hg,_⟩;·grind
 ·refine⟨some (az g 0),cap,rfl,.inr ⟨g,ik,rfl,hg,fun k hk t u hu=>?_⟩⟩;have a0:=h.cells (g:=g) rfl (k*5+t) _ (rD ls k hk t u hu);have e0:((az g 0):Addr).add (k*5+t)=(az g (k*5+t)):=by unfold Addr.add;split<;>simp_all
  grind
theorem As(kd a0 a1 a2 a3 a4 a5 a6 a7 a9 b0 b1 up:Int)(tx:ByteArray)(kv:Value)(w:Int)(W:World)(ht:cG W)(hs:tx.size<=100000)(hw:0<=w/\w<=100000):
 Calls prog 75 #[gY kd a0 a1 a2 a3 a4 a5 a6 a7 1 a9 b0 b1 tx kv up,Iq w] W fun e W'=>∃v,e=.returned v/\W'.ownsRow W.heap.size 9 1 v (js tx.data.toList 1 w).length (eK (js tx.data.toList 1 w))/\Below W.heap.size W W':=by
 obtain⟨i0,hi,eG,fs,gd⟩:=info_parts Ee;obtain⟨S,hS⟩:=ag W.heap.size;obtain⟨W3,kT⟩:=ag (((W.alloc (.cells #[Iq kd,Iq a0,Iq a1,Iq a2,Iq a3,Iq a4,Iq a5,Iq a6,Iq a7,Iq 1,Iq a9,Iq b0,Iq b1,.string tx,kv,Iq up] 63)).alloc (.cells #[Iq w] 3)).alloc (.cells #[.slice none 0 0] 78));have HB3:Hid (Below W.heap.size W W3):=by rw[<-kT];exact((((Gr.refl W).alloc _).alloc _).alloc _).below
 have b9:W3.heap[S]?=some (.cells #[Iq kd,Iq a0,Iq a1,Iq a2,Iq a3,Iq a4,Iq a5,Iq a6,Iq a7,Iq 1,Iq a9,Iq b0,Iq b1,.string tx,kv,Iq up] 63 (0,0)):=by rw[<-kT,<-hS,du _ _ _ (by rw[aI,aI];omega),du _ _ _ (by simp_all)];exact heap_alloc_new _ _
 have hbw:Boxed W3 (S+1) 3 (Iq w):=by rw[<-kT,<-hS,<-World.size_alloc];exact(Boxed.new _ 3 (Iq w)).alloc _
 have hbl:Boxed W3 (S+1+1) 78 (.slice none 0 0):=by rw[<-kT,<-hS,<-World.size_alloc,<-World.size_alloc];exact Boxed.new _ _ _
 have n9:W3.cell? (az S 9)=some (Iq 1):=by rw[Lib.cell_of_heap b9];rfl
 have Vd:W3.cell? (az S 13)=some (.string tx):=by rw[Lib.cell_of_heap b9];rfl
 have w0:=hbw.cell;have LN:Hid (Calls prog 153 #[.string tx,Iq w] W3 fun e W'=>∃v,e=.returned v/\Hid (W'.ownsRow W3.heap.size 231 5 v (bC (a_ (aD tx.data.toList)) w).length (iF (bC (a_ (aD tx.data.toList)) w)))/\Below W3.heap.size W3 W'):=LC tx w W3 (ht.below HB3) (by omega) (by omega) (by omega);have Pf:(bC (a_ (aD tx.data.toList)) w).length<=1000000:=by
  have h1:(bC (a_ (aD tx.data.toList)) w).length<=(a_ (aD tx.data.toList)).length+1:=by
   unfold bC;split;·simp
   ·grind[fe]
  have h2:=cE (aD tx.data.toList);have h3:=bK tx.data.toList;have h4:tx.data.toList.length=tx.size:=by rw[fV];rfl
  omega
 have Nr:Hid (js tx.data.toList 1 w=(bC (a_ (aD tx.data.toList)) w).map (·.T)):=if_pos rfl;rw[Nr.out,zh];obtain⟨ls,_'⟩:=ag (bC (a_ (aD tx.data.toList)) w);rw[_']at LN Pf⊢;obtain⟨n,hn⟩:=ag ls.length;have HN:=qH hn;have HBL:=qH hbl;have xx:=qH<|hbl.lt;rw[hS];have HB3':Hid (Below S W W3):=by rw[<-hS];exact HB3
 clear _' ht b9 hbw hbl Nr HB3;unfold gY;go_enter func75,ntmps75;go_wp2_with fail;clear kT hS;refine LN.mono ?_;rintro e w2 ⟨v,rfl,HL,b2⟩;obtain⟨p,cp,rfl,O_⟩:=ZG HL.out;have Ng:=qH O_;have HB2:=qH<|HB3'.trans (b2.mono (by have:=xx.out;omega));have HBX:Hid (Boxed w2 (S+1+1) 78 (.slice none 0 0)):=(b2.block _ xx).trans HBL;clear LN HL O_ b2 n9 Vd w0;rw[hn]at Pf⊢;go_wp2;go_loopw[17] (fun iv wr=>∃k:Nat,k<=n/\iv=Iq k/\Hid (Below S W wr)/\Hid (KpL w2 wr)/\∃vv,Hid (Boxed wr (S+1+1) 78 vv)/\Hid (wr.ownsRow S 9 1 vv k (eK ((ls.map (·.T)).take k)))) (fun iv _=>n-(intOf iv).toNat);case atStart=>exact⟨0,aZ _,rfl,HB2,fun _ _ _ e=>e,_,HBX,gF _ _ _ _⟩
 case round=>
  obtain⟨k,hk,rfl,HB,HK,vv,HX,HR⟩:=hrel;by_cases hlt:k<n
  ·have aN:(k:Int)<(n:Int):=by omega
   obtain⟨g,ik,rfl,hg,hc⟩:=Ng.resolve_left (by omega);have dj:k<ls.length:=by have:=HN.out;omega
   have HSN:Hid (eK ((ls.map (·.T)).take (k+1))=eK ((ls.map (·.T)).take k)++[.string ⟨ls[k].T.toArray⟩]):=by show _=_;rw[lk (by grind),sR,List.getElem_map]
   have HC:=qH<|fun t u hu=>(bU (a:=(az g (k*5+t))) ((HK g ik _ hg).trans hg.symm)).trans (hc k dj t u hu);obtain⟨⟨T,V,F,N,E⟩,hx⟩:=ag ls[k];rw[hx]at HC HSN;have c0:wr.cell? (az g (k*5))=some (.string ⟨T.toArray⟩):=HC 0 _ rfl;have c1:wr.cell? (az g (k*5+1))=some (Iq V):=HC 1 _ rfl;have c2:wr.cell? (az g (k*5+2))=some (Iq F):=HC 2 _ rfl;have c3:wr.cell? (az g (k*5+3))=some (Iq N):=HC 3 _ rfl;have c4:wr.cell? (az g (k*5+4))=some (Iq E):=HC 4 _ rfl;obtain⟨w5,qU⟩:=ag (wr.alloc (.cells #[.string ⟨T.toArray⟩,Iq V,Iq F,Iq N,Iq E] 231));have hx5:Boxed w5 (S+1+1) 78 vv:=by rw[<-qU];exact HX.alloc _
   have Fz:w5.ownsRow S 9 1 vv k (eK ((ls.map (·.T)).take k)):=by rw[<-qU];exact td HR _
   have rh:Below S W w5:=by rw[<-qU];exact HB.alloc (by have:=HX.lt;omega) _
   have WX:KpL w2 w5:=by rw[<-qU];exact fun j c fz e=>(du _ _ _ (aM.1 (HK j c fz e)).1).trans (HK j c fz e)
   have l0:w5.cell? (az wr.heap.size 0)=some (.string ⟨T.toArray⟩):=by rw[<-qU,Lib.cell_of_heap (heap_alloc_new _ _)];rfl
   have x5:=hx5.cell;have hz5:S<=w5.heap.size:=by have:=hx5.lt;omega
   have HX5:=qH hx5;have tU:=qH Fz;have io:=qH rh;have HK5:=qH WX;clear hx HC hc hg HK HB HR HX hx5 Fz rh WX;go_wp2_with(at_builtin;refine wpList_append_own _ rfl _ _ 78 rfl S 9 i0 (.string ⟨#[]⟩) 1 16 underlying78 hi eG fs gd rfl (by decide) _ _ _ rfl (td tU _) _ 1 1 [.string ⟨T.toArray⟩] rfl rfl ?c1 ?c2 ?c3 ?c4 ?c5 ?_);(try case c1=>exact rH _ _ _);(try case c2=>first|exact rfl|(intro u hu;simp at hu;subst hu;rfl));case c3=>unfold maxLen;omega
   case c4=>omega
   case c5=>omega
   intro v' w6 bD fY _;obtain⟨g',dD,rfl⟩:=ownsRow_succ bD;obtain⟨oB,sB,hr2,_,hb2⟩:=HX5.appended (by decide) tU hz5 (by omega) bD fY;have JW:Hid (KpL w2 (w6.setCell (az (S+1+1) 0) (Sq g' (k+1) dD))):=fun j c fz e=>UV HX5 tU fY j c fz (HK5 j c fz e);have J0:=qH sB;have HR2:=qH hr2;have kw:Hid (Below S W (w6.setCell (az (S+1+1) 0) (Sq g' (k+1) dD))):=io.trans hb2;have hc1:=oB.cell;have xg:=oB.frozen;clear fY bD oB sB hr2 hb2;go_wp2;go_roundw;case rel=>exact⟨k+1,hlt,by go_num,kw,JW,_,J0,by rw[HSN.out];exact HR2⟩
   grind[intOf]
  ·have aN:¬(k:Int)<(n:Int):=by omega
   obtain rfl:k=n:=by omega
   have x0:=HX.cell;have HRN:Hid (wr.ownsRow S 9 1 vv k (eK (ls.map (·.T)))):=by have:=HR.out;rw[gV (by grind)]at this;exact this
   go_wp2;go_ret;exact⟨_,rfl,HRN,HB⟩
theorem vN{W:World}{B B'}{e}{size}{v}{n}{xs}(h:W.ownsRow B e size v n xs)(hb:B'<=B):W.ownsRow B' e size v n xs:=by
 refine⟨h.1,?_⟩;rcases h.2 with h|⟨g,cap,ik,h1,h2,h3⟩;·grind
 ·exact .inr ⟨g,cap,ik,h1,aO hb h2,h3⟩
theorem AA{W u}{B}{e}{size}{v}{n}{xs}(h:W.ownsRow B e size v n xs)(hb:Bt W u):u.ownsRow B e size v n xs:=by
 refine⟨h.1,?_⟩;rcases h.2 with h|⟨g,cap,ik,h1,h2,h3,h4⟩;·grind
 ·exact .inr ⟨g,cap,ik,h1,h2,(hb.block g (aM.1 h3).1).trans h3,h4⟩
def Cs(w:Int)(p:List UInt8):List UInt8:=mc (one (a_ (aD p))) w
theorem DL(kd a0 a1 a2 a3 a4 a5 a6 a7 a8 a9 b0 b1 up:Int)(tx:ByteArray)(kv:Value)(w:Int)(W:World)(ht:cG W)(hs:tx.size<=100000)(hw:0<=w/\w<=100000)(h8:a8≠1):
 Calls prog 75 #[gY kd a0 a1 a2 a3 a4 a5 a6 a7 a8 a9 b0 b1 tx kv up,Iq w] W fun e W'=>∃v,e=.returned v/\W'.ownsRow W.heap.size 9 1 v (js tx.data.toList a8 w).length (eK (js tx.data.toList a8 w))/\Below W.heap.size W W':=by
 have Nr:Hid (js tx.data.toList a8 w=(bQ tx.data.toList).map (Cs w)):=if_neg h8;rw[Nr.out];obtain⟨t,htt⟩:=ag tx.data.toList;have hst:tx=⟨t.toArray⟩:=by rw[<-htt]
 have uf:t.length<=100000:=by rw[<-htt,fV];exact hs
 rw[htt];subst hst;clear htt hs Nr;have kD:prog.follows .mixedOrders=true:=by kernel_rfl
 have e8:(a8==1)=false:=by simpa using h8
 obtain⟨i0,hi,eG,fs,gd⟩:=info_parts Ee;unfold gY;refine(callsIn_wide (n:=6)).1 ?_;refine callsIn_of_wp_marks func75 rfl trivial ?_ rfl;simp only[ntmps75,lp,e_,iA,Nat.reduceAdd,Nat.reduceSub,tf,tg,th,ti,tj,oK];gi_wp2_with fail;obtain⟨S,hS⟩:=ag W.heap.size;obtain⟨X1,h1⟩:=ag (W.alloc (.cells #[Iq kd,Iq a0,Iq a1,Iq a2,Iq a3,Iq a4,Iq a5,Iq a6,Iq a7,Iq a8,Iq a9,Iq b0,Iq b1,.string ⟨t.toArray⟩,kv,Iq up] 63));have s1:X1.heap.size=S+1:=by rw[<-h1,aI,hS]
 obtain⟨X2,h2⟩:=ag (X1.alloc (.cells #[Iq w] 3));have s2:X2.heap.size=S+1+1:=by rw[<-h2,aI,s1]
 obtain⟨X3,h3⟩:=ag (X2.alloc (.cells #[.slice none 0 0] 78));have s3:X3.heap.size=S+1+1+1:=by rw[<-h3,aI,s2]
 rw[h1,h2,h3];refine⟨trivial,(callsIn_wide.2 (qE ⟨t.toArray⟩ _)).mono ?_⟩;rintro e w' ⟨rfl,rfl⟩;obtain⟨X4,h4⟩:=ag (X3.alloc (.cells #[.string ⟨t.toArray⟩] 9));have s4:X4.heap.size=S+1+1+1+1:=by rw[<-h4,aI,s3]
 obtain⟨X5,h5⟩:=ag (X4.alloc (.cells #[.string ⟨#[10]⟩] 9));have s5:X5.heap.size=S+1+1+1+1+1:=by rw[<-h5,aI,s4]
 obtain⟨X6,h6⟩:=ag (X5.alloc (.cells #[Iq 0] 3));have s6:X6.heap.size=S+1+1+1+1+1+1:=by rw[<-h6,aI,s5]
 have bW:Boxed X6 (S+1) 3 (Iq w):=by
  have q:Boxed X2 (S+1) 3 (Iq w):=by rw[<-h2,<-s1];exact Boxed.new _ _ _
  rw[<-h6,<-h5,<-h4,<-h3];exact(((q.alloc _).alloc _).alloc _).alloc _
 have bL:Boxed X6 (S+1+1) 78 (.slice none 0 0):=by
  have q:Boxed X3 (S+1+1) 78 (.slice none 0 0):=by rw[<-h3,<-s2];exact Boxed.new _ _ _
  rw[<-h6,<-h5,<-h4];exact((q.alloc _).alloc _).alloc _
 have bT:Boxed X6 (S+1+1+1) 9 (.string ⟨t.toArray⟩):=by
  have q:Boxed X4 (S+1+1+1) 9 (.string ⟨t.toArray⟩):=by rw[<-h4,<-s3];exact Boxed.new _ _ _
  rw[<-h6,<-h5];exact(q.alloc _).alloc _
 have bP:Boxed X6 (S+1+1+1+1) 9 (.string ⟨#[10]⟩):=by
  have q:Boxed X5 (S+1+1+1+1) 9 (.string ⟨#[10]⟩):=by rw[<-h5,<-s4];exact Boxed.new _ _ _
  rw[<-h6];exact q.alloc _
 have bV:Boxed X6 (S+1+1+1+1+1) 3 (Iq 0):=by rw[<-h6,<-s5];exact Boxed.new _ _ _
 have su:Below S W X6:=by rw[<-h6,<-h5,<-h4,<-h3,<-h2,<-h1,<-hS];exact((((((Gr.refl W).alloc _).alloc _).alloc _).alloc _).alloc _).alloc _|>.below
 rw[h4,h5,h6,s3,hS];have ht6:cG X6:=ht.below (by grind);clear h1 h2 h3 h4 h5 h6 s1 s2 s3 s4 s5;gi_wp2;refine oH rfl (by omega) (gf:=220) (lb:=#[Pq (S+1+1+1+1),Pq (S+1+1+1),Pq (S+1+1+1+1+1)]) rfl trivial (enters_of func220 (by kernel_rfl) rfl)
  (qD 5 (by omega) (S+1+1+1+1) (S+1+1+1) (S+1+1+1+1+1) t (by omega) X6 (by omega) (by omega) bP bT bV) (by omega) mj.trans (yE (by omega) (by omega) (by omega)) (aj _ _) (fun _=>rfl)
  (fun pre W'=>((∃v,Boxed W' (S+1+1) 78 v/\W'.ownsRow X6.heap.size 9 1 v pre.length (eK (pre.map (Cs w)))/\True)/\Boxed W' (S+1) 3 (Iq w))/\Below S W W'/\X6.heap.size<=W'.heap.size)
  (OwnFrom.and (OwnFrom.and (Own.from (holdsRow_own X6.heap.size (S+1+1) 78 9 1 (fun pre:List (List UInt8)=>pre.length) (fun pre=>eK (pre.map (Cs w))) (fun _ _=>True)) _) (Own.from (boxed_own _ _ _) _)) (OwnFrom.and (ownFrom_below (by omega) (by omega)) (fun _ _ _ _ h hg _=>aO h hg.size)))
  (fun pre A B row ⟨⟨⟨v,q1,q2,_⟩,q3⟩,q4,q5⟩ hg hr=>by
   have hro:∀b,b≠S+1+1+1->some b≠row:=fun b hb e=>by grind
   refine⟨⟨⟨v,q1.kept hg (hro _ (by omega)),q2.kept hg ?_,trivial⟩,q3.kept hg (hro _ (by omega))⟩,q4.grown hg (by omega) (fun q hq=>by grind),aO q5 hg.size⟩;rcases q2.2 with⟨rfl,_⟩|⟨g,cap,ik,rfl,sw,_⟩;·exact .inl rfl
   ·exact .inr (fun e=>hro g (by omega) e))
  ⟨⟨⟨_,bL,gF _ _ _ _,trivial⟩,bW⟩,su,ai _⟩
  (fun x a' W'=>a'={tmps:=#[.agg #[Iq kd,Iq a0,Iq a1,Iq a2,Iq a3,Iq a4,Iq a5,Iq a6,Iq a7,Iq a8,Iq a9,Iq b0,Iq b1,.string ⟨t.toArray⟩,kv,Iq up],Iq w,Pq S,Pq (S+1),.slice none 0 0,Pq (S+1+1),undef,undef,.string ⟨x.toArray⟩,.pointer (some (az S 9)),Iq a8,.bool false,undef,undef,undef,undef,undef,undef,undef,undef,undef,undef,undef,undef,undef,undef,undef,undef,.pointer (some (az S 13)),.string ⟨t.toArray⟩,.func (.func 220) #[] #[Pq (S+1+1+1+1),Pq (S+1+1+1),Pq (S+1+1+1+1+1)],.string ⟨x.toArray⟩,undef,undef,undef,undef,undef,undef,undef],defers:=[]})
  (fun _ _ _ _ _ _ hs _ _=>hs)
  ?assign ?body ?done;case assign=>rintro k0 pre x W' K hI hK;dsimp only[Mm]at hK⊢;gi_wp2;exact hK _ _ (KeepsFrom.refl _ _) ⟨rfl,rfl,rfl⟩ hI rfl
 case body=>
  rintro k0 pre x a' W' ⟨⟨⟨v,hv,hrow,_⟩,hbw⟩,hB,hWl⟩ rfl hlt UJ;have hc:=hv.cell;have wc:=hbw.cell;have hxz:(⟨x.toArray⟩:ByteArray).size=x.length:=by simp[ByteArray.size]
  obtain⟨y,hy⟩:=ag (Cs w x);have HV:=qH hv;have oN:=qH hrow;have HBW:=qH hbw;have FF:=qH hB;have CU:Hid (∀u,(u=W'\/u=W'.drew)->Calls prog 155 #[.string ⟨x.toArray⟩,Iq w] u fun e u'=>e=.returned (.string ⟨y.toArray⟩)/\Hid (Below W'.heap.size W' u')):=fun u hu=>by
   have iD:Below W'.heap.size W' u:=by
    rcases hu with rfl|rfl;·exact aj _ _
    ·exact(aj _ _).drew
   refine(TL ⟨x.toArray⟩ w u ((ht.below (w':=W') (by grind)).below iD) (by rw[hxz];omega) (by omega) (by omega)).mono ?_;rintro e u' ⟨rfl,q⟩;exact⟨by rw[<-hy];rfl,iD.trans (q.mono iD.size)⟩
  have iB:Hid (∀u v' w6,Below W'.heap.size W' u->w6.ownsRow X6.heap.size 9 1 v' (pre.length+1) (eK (pre.map (Cs w))++[.string ⟨y.toArray⟩])->(u.alloc (.cells #[.string ⟨y.toArray⟩] 9)).grownBy w6 v.ownBlock->(w6.cell? (az (S+1+1) 0)=some v/\w6.frozen? (az (S+1+1) 0)=false/\w6.cell? (az (S+1) 0)=some (Iq w))/\zQ X6.heap.size (mj (S+1+1+1+1) (S+1+1+1) (S+1+1+1+1+1)) (fun pre W'=>((∃v,Boxed W' (S+1+1) 78 v/\W'.ownsRow X6.heap.size 9 1 v pre.length (eK (pre.map (Cs w)))/\True)/\Boxed W' (S+1) 3 (Iq w))/\Below S W W'/\X6.heap.size<=W'.heap.size) (pre++[x]) W' .normal {tmps:=#[],defers:=[]} (w6.setCell (az (S+1+1) 0) v')):=fun u v' w6 hu bD fY=>by
   have hvu:Boxed u (S+1+1) 78 v:=(hu.block _ HV.lt).trans HV;have FB:u.ownsRow X6.heap.size 9 1 v pre.length (eK (pre.map (Cs w))):=AA oN hu;obtain⟨oB,sB,hr2,I2,hb2⟩:=hvu.appended (by decide) (vN FB (by omega:S<=_)) (by have:=hvu.lt;omega) (by omega) (vN bD (by omega:S<=_)) fY;have BJ:=bD.kept (grownBy_setCell' w6 _ v') (.inr (oB.not_row (by decide) bD).symm);have vr:=fun q hq=>(FB.lt q hq).1;have key:∀b,b≠S+1+1->b<X6.heap.size->(w6.setCell (az (S+1+1) 0) v').heap[b]?=W'.heap[b]?:=fun b hb hl=>by rw[cF w6 (az (S+1+1) 0) v' b hb,fY.block b (by rw[aI];have:=hu.size;omega) (fun e=>by grind),du _ _ _ (by have:=hu.size;omega)];exact hu.block b (by omega)
   have hwb:Boxed (w6.setCell (az (S+1+1) 0) v') (S+1) 3 (Iq w):=(key (S+1) (by omega) (by omega)).trans HBW;refine⟨⟨oB.cell,oB.frozen,?_⟩,?_,⟨key _ (by omega) (by omega),key _ (by omega) (by omega),key _ (by omega) (by omega)⟩,⟨⟨v',sB,?_,trivial⟩,hwb⟩,FF.trans ((hu.mono (by omega)).trans hb2),?_⟩;·have:=(cF w6 (az (S+1+1) 0) v' (S+1) (by grind)).symm.trans hwb;exact Boxed.cell this
   ·exact(KeepsOthers.trans ⟨hu.size,fun k o ho _=>(hu.block k (aM.1 ho).1).trans ho⟩ I2).from _
   ·grind[sR]
   ·have h1:=hu.size;have h2:=fY.size;rw[aI]at h2;simp[World.setCell];omega
  clear hv hrow hbw hB;gi_wp2_with fail;refine AP (S:=fun u=>u.cell? (az (S+1) 0)=some (Iq w)) (by kernel_rfl) (by rintro⟨_,_,q⟩;exact q) kD wc (fun hS0=>?_);refine wpAnyH_take (i:=1) (v:=?v1) rfl (by kernel_rfl) (by kernel_rfl) (by kernel_rfl) (fun _ _ _ h=>h) (Or.inl ⟨by rfl,?hy⟩) (by omega) ?_;case hy=>intro w hSw;(try dsimp only at hSw);go_simp<;>with_reducible rfl
  try simp only[Act.put]
  refine wpAnyH_take (i:=2) (v:=?v2) rfl (by kernel_rfl) (by kernel_rfl) (by kernel_rfl) (fun _ _ _ h=>h) (Or.inl ⟨by rfl,?hy⟩) (by omega) ?_;case hy=>intro w hSw;(try dsimp only at hSw);go_simp<;>with_reducible rfl
  try simp only[Act.put]
  refine wpAnyH_ready (rs:=[0,3]) (by kernel_rfl) (by simp) ?_;refine AllReadyH.cons rfl (fun K' hK=>?_) (AllReadyH.cons rfl (fun K' hK=>?_) AllReadyH.nil);focus go_simp;refine hK.out _ _ wc (fun _=>?_);clear hK K';refine wpAnyH_ready (rs:=[3]) (by kernel_rfl) (by simp) ?_;refine AllReadyH.cons rfl (fun K' hK=>?_) AllReadyH.nil;go_simp;go_wp2_with(go_at_call 155;refine ao (CU _ (by grind)) ?_;rintro e u ⟨rfl,HU⟩);have wu:=(HU.cell (p:=(az (S+1) 0)) HBW.lt).trans HBW.cell;have lu:=(HU.cell (p:=(az (S+1+1) 0)) HV.lt).trans HV.cell;refine hK.out _ _ wu (fun _=>?_);clear hK K';refine wpAnyH_ready (rs:=[4]) (by kernel_rfl) (by simp) ?_;refine AllReadyH.cons rfl (fun K' hK=>?_) AllReadyH.nil;go_simp;have wb:(u.alloc (.cells #[.string ⟨y.toArray⟩] 9)).cell? (az (S+1) 0)=some (Iq w):=(World.cell?_alloc_some u _ _ (by grind)).trans wu;have lb:(u.alloc (.cells #[.string ⟨y.toArray⟩] 9)).cell? (az (S+1+1) 0)=some v:=(World.cell?_alloc_some u _ _ (by grind)).trans lu;refine hK.out _ _ wb (fun _=>?_);clear hK K'
  rotate_left;focus
   go_simp;go_wp2_with(go_at_call 155;refine ao (CU _ (by grind)) ?_;rintro e u ⟨rfl,HU⟩);have wu:=(HU.cell (p:=(az (S+1) 0)) HBW.lt).trans HBW.cell;have lu:=(HU.cell (p:=(az (S+1+1) 0)) HV.lt).trans HV.cell;refine hK.out _ _ wu (fun _=>?_);clear hK K';refine wpAnyH_ready (rs:=[0,4]) (by kernel_rfl) (by simp) ?_;refine AllReadyH.cons rfl (fun K' hK=>?_) (AllReadyH.cons rfl (fun K' hK=>?_) AllReadyH.nil);focus go_simp;refine hK.out _ _ wu (fun _=>?_);clear hK K';refine wpAnyH_ready (rs:=[4]) (by kernel_rfl) (by simp) ?_;refine AllReadyH.cons rfl (fun K' hK=>?_) AllReadyH.nil;go_simp;have wb:(u.alloc (.cells #[.string ⟨y.toArray⟩] 9)).cell? (az (S+1) 0)=some (Iq w):=(World.cell?_alloc_some u _ _ (by grind)).trans wu;have lb:(u.alloc (.cells #[.string ⟨y.toArray⟩] 9)).cell? (az (S+1+1) 0)=some v:=(World.cell?_alloc_some u _ _ (by grind)).trans lu;refine hK.out _ _ wb (fun _=>?_);clear hK K'
   rotate_left;focus go_simp;have wb:(u.alloc (.cells #[.string ⟨y.toArray⟩] 9)).cell? (az (S+1) 0)=some (Iq w):=(World.cell?_alloc_some u _ _ (by grind)).trans wu;have lb:(u.alloc (.cells #[.string ⟨y.toArray⟩] 9)).cell? (az (S+1+1) 0)=some v:=(World.cell?_alloc_some u _ _ (by grind)).trans lu;refine hK.out _ _ wb (fun _=>?_);clear hK K';refine wpAnyH_ready (rs:=[0]) (by kernel_rfl) (by simp) ?_;refine AllReadyH.cons rfl (fun K' hK=>?_) AllReadyH.nil;go_simp;refine hK.out _ _ wb (fun _=>?_);clear hK K'
  all_goals refine wpAnyH_ready (rs:=[5]) (by kernel_rfl) (by simp) ?_;refine AllReadyH.cons rfl (fun K' hK=>?_) AllReadyH.nil;refine lV rfl (.tmp 32) (.tmp 36) 78 rfl X6.heap.size 9 i0 (.string ⟨#[]⟩) 1 16 underlying78 hi eG fs gd rfl (by decide) v pre.length (eK (pre.map (Cs w))) (by simp[Act.eval]) (td (AA oN HU) _) _ 1 1 [.string ⟨y.toArray⟩] (by simp[Act.eval]) rfl (rH _ _ _) (by intro u hu;simp at hu;subst hu;rfl) (by unfold maxLen;omega) (by omega) (by rw[aI];have:=HU.size;omega) ?_;intro v' w6 bD fY;obtain⟨g',dD,rfl⟩:=ownsRow_succ bD;obtain⟨⟨f1,f2,f3⟩,f4⟩:=iB u _ w6 HU bD fY;refine hK.out _ _ f3 (fun _=>?_);clear hK K';refine wpAnyH_ready (rs:=[6]) (by kernel_rfl) (by simp) ?_;refine AllReadyH.cons rfl (fun K' hK=>?_) AllReadyH.nil;go_simp;refine hK.out _ _ ((World.cell?_setCell_far _ _ _ _ (by grind)).trans f3) (fun _=>?_);clear hK K';refine wpAnyH_done (by kernel_rfl) ?_ _;exact f4
 case done=>rintro D ys W' hD rfl ⟨⟨⟨v,hv,hrow,_⟩,hbw⟩,hB,_⟩ hK;have hc:=hv.cell;gi_wp2;refine⟨by simp,.inl ⟨_,_,rfl,run_takeDeferred hK,?_⟩⟩;refine⟨_,results_tmp rfl _ _ _,v,rfl,?_,by rw[hS];exact hB.trans (belowK_b (w:=W) (by omega) W' D _ _ (by omega) hK rfl rfl)⟩;rw[hS,zh];exact ownsRow_putObj (vN hrow (by omega)) _ hK rfl
end
theorem GI  l   a n  :(aJ ((l.drop a).take n)).length<=(aJ l).length:=by
 have h1:aJ l=aJ (l.take a)++aJ (l.drop a):=by rw[<-iE,gU]
 have h2:aJ (l.drop a)=aJ ((l.drop a).take n)++aJ ((l.drop a).drop n):=by rw[<-iE,gU]
 rw[h1,h2,bm,bm];omega
theorem GQ  l   w   B  (hj:(aJ l).length<=B) (hw:w.toNat<=B):∀  f a,∀x∈jG f l w a,x.T.length<=B:=by
 have key:∀a,(c_ l w a).T.length<=B:=fun a=>by
  have:=GI l a (aU (l.drop a) w).n;unfold c_;dsimp only;split;·simpa using hw
  ·dsimp only;omega
 intro f;induction f with
 |zero=>intro a x hx;cases hx
 |succ f ih=>
  intro a x hx;simp only[jG]at hx;split at hx;·rw[sZ.1 hx];exact key a
  ·rcases km.1 hx with rfl|hx;·exact key a
   ·exact ih _ x hx
theorem G7  l  :(aJ (one l)).length=(aJ l).length:=by
 induction l with
 |nil=>rfl
 |cons c l ih=>grind[aJ,one,gR]
theorem vR:∀  t,∀p∈bQ t,p.length<=t.length
 |[],p,hp=>by grind[bQ]
 |b::t,p,hp=>by have ih:=vR t;grind[bQ]
theorem Q9  t   wrap w  (ht:t.length<=100000) (hw:w<=100000):∀s∈js t wrap w,s.length<=3000000:=by
 intro s hs;unfold js at hs;split at hs
 ·obtain⟨x,hx,rfl⟩:=l_.1 hs;have hj:=oC t;unfold bC at hx;split at hx;·cases hx
  ·exact GQ _ w 3000000 (by omega) (by omega) _ _ x hx
 ·obtain⟨p,hp,rfl⟩:=l_.1 hs;have hl:=vR t p hp;grind[oC,G7,a_,aD,mc,fK,one,dy]
theorem NO  T   c W how  :(tq T c W how).length<=T.length+100000+c.natAbs:=by grind[tq,FQ]
section
variable(W H:Nat) (f g bd cx cy ca cb:Int)
def txK(x w al:Int):List (List UInt8)->Int->(Nat->Nat->Ce)->Nat->Nat->Ce
 |[],_,c=>c
 |s::r,y,c=>txK x w al r (y+1) (wrL W H f g bd cx cy ca cb x y (tq s (ap (a_ (aD s))) w al) c)
theorem ES  x w al  :∀  l   s   y   c,txK W H f g bd cx cy ca cb x w al (l++[s]) y c=wrL W H f g bd cx cy ca cb x (y+l.length) (tq s (ap (a_ (aD s))) w al) (txK W H f g bd cx cy ca cb x w al l y c)
 |[],s,y,c=>by show wrL W H f g bd cx cy ca cb x y _ _=wrL W H f g bd cx cy ca cb x (y+0) _ _;rw[Ff];rfl
 |p::l,s,y,c=>by show txK W H f g bd cx cy ca cb x w al (l++[s]) (y+1) _=_;rw[ES x w al l s,show(y+((p::l).length:Int))=y+1+l.length by simp;omega];rfl
theorem wP{P:(Nat->Nat->Ce)->Prop}  x w al  :∀  l   y   c,(∀y s c,P c->P (wrL W H f g bd cx cy ca cb x y s c))->P c->P (txK W H f g bd cx cy ca cb x w al l y c)
 |[],_,_,_,h=>h
 |s::r,y,c,hs,h=>wP x w al r _ _ hs (hs _ _ _ h)
end
theorem DK  kd a0 a1 a2 a3 a4 a5 a6 a7 a8 a9 b0 b1 up   tx   kv   w   W  (ht:cG W) (hs:tx.size<=100000) (hw:0<=w/\w<=100000):
 Cw 75 #[gY kd a0 a1 a2 a3 a4 a5 a6 a7 a8 a9 b0 b1 tx kv up,Iq w] W fun e W'=>∃v,e=Rw v/\W'.ownsRow W.heap.size 9 1 v (js tx.data.toList a8 w).length (eK (js tx.data.toList a8 w))/\Bt W W':=by
 by_cases h8:a8=1;·subst h8;exact As kd a0 a1 a2 a3 a4 a5 a6 a7 a9 b0 b1 up tx kv w W ht hs hw
 ·exact DL kd a0 a1 a2 a3 a4 a5 a6 a7 a8 a9 b0 b1 up tx kv w W ht hs hw h8
theorem VK{W:World}{B}{v}{ls}(h:W.ownsRow B 9 1 v ls.length (eK ls)):∃p c,v=.slice p ls.length c/\ls.length<=c/\(ls.length=0\/∃g,p=some (az g 0)/\B<=g/\g<W.heap.size/\∀k (hk:k<ls.length),W.cell? (az g k)=some (.string ⟨ls[k].toArray⟩)):=by
 rcases h.2 with⟨rfl,hz⟩|⟨g,cap,ik,rfl,hb,hg,hc,_⟩;·exact⟨none,0,by rw[hz],by omega,.inl hz⟩
 ·refine⟨some (az g 0),cap,rfl,hc,.inr ⟨g,rfl,hb,(aM.1 hg).1,fun k hk=>?_⟩⟩;have a0:=h.cells (g:=g) rfl k (.string ⟨ls[k].toArray⟩) (by grind[eK]);have e0:((az g 0):Addr).add k=(az g k):=by unfold Addr.add;split<;>simp_all
  grind
section
variable{K M cap W H:Nat} {c:Nat->Nat->Ce}
theorem xQ(U0 w0:World)(h:CS 100 42 w0 K M cap W H c)(hW:1<=W/\W<=400)(hH:1<=H/\H<=400)(hp:PAll W H c)(ht:cG U0)(hU:Bt U0 w0)(hM:U0.heap.size<=M)(f g bd cx cy ca cb:Int)(kd a0 a1 a2 a3 a4 a5 a6 a7 a8 a9 b0 b1 up:Int)(tx:ByteArray)(kv:Value)(x y w hh:Int)(hs:tx.size<=100000)
 (hx:-100000000000<=x/\x<=100000000000) (hy:-100000000000<=y/\y<=100000000000) (hw:0<=w/\w<=100000) (SB:0<=hh/\hh<=100000) (Y0:-1000000000000<=cy/\cy<=1000000000000) (Ul:-1000000000000<=cb/\cb<=1000000000000):
 Cw 41 #[MC K f g bd cx cy ca cb,gY kd a0 a1 a2 a3 a4 a5 a6 a7 a8 a9 b0 b1 tx kv up,rv x y w hh] w0 fun e w'=>e=Rw (.tuple #[])/\Cv 42 w' M W H (txK W H f g bd cx cy ca cb x w a7 ((js tx.data.toList a8 w).take hh.toNat) y c)/\cN M w0 w':=by
 have kD:prog.follows .mixedOrders=true:=by kernel_rfl
 have yw:=h.cv.lt;obtain⟨A,hA⟩:=ag w0.heap.size;obtain⟨W3,kT⟩:=ag (((w0.alloc (.cells #[Pq K,Iq f,Iq g,Iq bd,Iq cx,Iq cy,Iq ca,Iq cb] 60)).alloc (.cells #[Iq kd,Iq a0,Iq a1,Iq a2,Iq a3,Iq a4,Iq a5,Iq a6,Iq a7,Iq a8,Iq a9,Iq b0,Iq b1,.string tx,kv,Iq up] 63)).alloc (.cells #[Iq x,Iq y,Iq w,Iq hh] 58));have HB3:Hid (Bt w0 W3):=by rw[<-kT];exact((((Gr.refl w0).alloc _).alloc _).alloc _).below
 have qR:W3.heap[A]?=some (.cells #[Pq K,Iq f,Iq g,Iq bd,Iq cx,Iq cy,Iq ca,Iq cb] 60 (0,0)):=by rw[<-kT,<-hA,du _ _ _ (by rw[aI,aI];omega),du _ _ _ (by simp_all)];exact heap_alloc_new _ _
 have hn3:W3.heap[A+1]?=some (.cells #[Iq kd,Iq a0,Iq a1,Iq a2,Iq a3,Iq a4,Iq a5,Iq a6,Iq a7,Iq a8,Iq a9,Iq b0,Iq b1,.string tx,kv,Iq up] 63 (0,0)):=by rw[<-kT,<-hA,du _ _ _ (by simp_all),<-World.size_alloc];exact heap_alloc_new _ _
 have BJ:W3.heap[A+1+1]?=some (.cells #[Iq x,Iq y,Iq w,Iq hh] 58 (0,0)):=by rw[<-kT,<-hA,<-World.size_alloc,<-World.size_alloc];exact heap_alloc_new _ _
 have Wn:=qH<|(aM.1 BJ).1;have Sg:Hid (M<A):=by rw[<-hA];exact yw
 have HS:Hid (∀u,cN M W3 u->u.cell? (az A 0)=some (Pq K)/\u.cell? (az A 1)=some (Iq f)/\u.cell? (az A 2)=some (Iq g)/\u.cell? (az A 3)=some (Iq bd)/\u.cell? (az A 4)=some (Iq cx)/\u.cell? (az A 5)=some (Iq cy)/\u.cell? (az A 6)=some (Iq ca)/\u.cell? (az A 7)=some (Iq cb)/\u.cell? (az (A+1+1) 0)=some (Iq x)/\u.cell? (az (A+1+1) 1)=some (Iq y)/\u.cell? (az (A+1+1) 2)=some (Iq w)/\u.cell? (az (A+1+1) 3)=some (Iq hh)/\u.cell? (az (A+1) 8)=some (Iq a7)):=fun u hu=>by
  have e1:=(hu.block A (by grind) (by omega)).trans qR;have e2:=(hu.block (A+1) (by grind) (by omega)).trans hn3;have e3:=(hu.block (A+1+1) Wn (by omega)).trans BJ;refine⟨?_,?_,?_,?_,?_,?_,?_,?_,?_,?_,?_,?_,?_⟩;all_goals first
   |(rw[Lib.cell_of_heap e1];rfl)
   |(rw[Lib.cell_of_heap e2];rfl)
   |(rw[Lib.cell_of_heap e3];rfl)
 have HN:Hid (∀(k:Nat) v,(#[Iq kd,Iq a0,Iq a1,Iq a2,Iq a3,Iq a4,Iq a5,Iq a6,Iq a7,Iq a8,Iq a9,Iq b0,Iq b1,.string tx,kv,Iq up]:Array Value)[k]?=some v->W3.cell? (az (A+1) k)=some v):=fun k v hv=>by rw[Lib.cell_of_heap hn3];exact hv
 obtain⟨z0,z1,z2,z3,z4,z5,z6,z7,r0,r1,r2,r3,_⟩:=HS W3 (cN.refl _ _);have n0:W3.cell? (az (A+1) 0)=some (Iq kd):=HN 0 _ rfl;have n1:=HN 1 _ rfl;have n2:=HN 2 _ rfl;have n3:=HN 3 _ rfl;have n4:=HN 4 _ rfl;have n5:=HN 5 _ rfl;have n6:=HN 6 _ rfl;have n7:=HN 7 _ rfl;have n8:=HN 8 _ rfl;have n9:=HN 9 _ rfl;have ZJ:=HN 10 _ rfl;have ZK:=HN 11 _ rfl;have ZL:=HN 12 _ rfl;have Vd:=HN 13 _ rfl;have ZN:=HN 14 _ rfl;have ZO:=HN 15 _ rfl;have OP:=hU.trans (HB3.mono hU.size);have HU3:=qH OP;have HT:=qH ht;have HCS:=qH h;have HP:=qH hp;have LO:Hid (Cw 75 #[gY kd a0 a1 a2 a3 a4 a5 a6 a7 a8 a9 b0 b1 tx kv up,Iq w] W3 fun e W'=>∃v,e=Rw v/\Hid (W'.ownsRow W3.heap.size 9 1 v (js tx.data.toList a8 w).length (eK (js tx.data.toList a8 w)))/\Bt W3 W'):=DK kd a0 a1 a2 a3 a4 a5 a6 a7 a8 a9 b0 b1 up tx kv w W3 (ht.below OP) hs hw;have Ya:Hid (∀s∈js tx.data.toList a8 w,s.length<=3000000):=Q9 _ _ _ (by rw[fV];exact hs) hw.2;obtain⟨ls,_'⟩:=ag (js tx.data.toList a8 w);rw[_']at LO Ya⊢;obtain⟨m,hm⟩:=ag (min ls.length hh.toNat);have hmI:min (ls.length:Int) hh=(m:Int):=by omega
 have og:m<=ls.length:=by omega
 have HTK:Hid (ls.take hh.toNat=ls.take m):=by show _=_;rw[<-hm,List.take_eq_take_iff];omega
 rw[HTK.out];clear _' hm ht hU OP h hp qR hn3 BJ;unfold MC rv;unfold gY at LO⊢;go_enter func41,ntmps41;go_wp2_with fail;clear kT hA;refine LO.mono ?_;rintro e w2 ⟨v,rfl,HL,b2⟩;obtain⟨p,cp,rfl,hcp,O_⟩:=VK HL.out;have Ng:=qH O_;have HC2:Hid (cN M W3 w2):=cN.below b2;obtain⟨y0,y1,y2,y3,y4,y5,y6,y7,q0,q1,q2,q3,q4⟩:=HS w2 HC2;have J0:=qH<|HCS.cv.keep ((b2.block M (by have:=Sg.out;have:=Wn.out;omega)).trans (HB3.block M yw));clear LO HL O_ b2 z0 z1 z2 z3 z4 z5 z6 z7 r0 r1 r2 r3 n0 n1 n2 n3 n4 n5 n6 n7 n8 n9 ZJ ZK ZL Vd ZN ZO HN;have hm2:m<=cp:=by omega
 go_wp2;go_loopw[21] (fun iv wr=>∃k:Nat,k<=m/\iv=Iq k/\Hid (Cv 42 wr M W H (txK W H f g bd cx cy ca cb x w a7 (ls.take k) y c))/\Hid (cN M w2 wr)) (fun iv _=>m-(intOf iv).toNat);case atStart=>exact⟨0,aZ _,rfl,J0,cN.refl _ _⟩
 case round=>
  obtain⟨k,hk,rfl,HV,HC⟩:=hrel;by_cases hlt:k<m
  ·have aN:(k:Int)<(m:Int):=by omega
   obtain⟨gb,rfl,sw,kU,hg⟩:=Ng.resolve_left (by omega);have dj:k<ls.length:=by omega
   obtain⟨s,hse⟩:=ag ls[k];have lq:s.length<=3000000:=by rw[<-hse];exact Ya _ (lX dj)
   obtain⟨al,tC⟩:=ag (tq s (ap (a_ (aD s))) w a7);have hwl:=cJ _ (dO (aD s)) (a_ (aD s)).length;rw[l5]at hwl;have hcl:=cE (aD s);have tG:=bK s;have ef:al.length<=100000000:=by rw[<-tC];have:=NO s (ap (a_ (aD s))) w a7;omega
   have c0:wr.cell? (az gb k)=some (.string ⟨s.toArray⟩):=by rw[<-hse];exact(bU (a:=(az gb k)) (HC.block gb kU (by have:=Sg.out;have:=Wn.out;omega))).trans (hg k dj)
   have HNX:Hid (txK W H f g bd cx cy ca cb x w a7 (ls.take (k+1)) y c=wrL W H f g bd cx cy ca cb x (y+k) al (txK W H f g bd cx cy ca cb x w a7 (ls.take k) y c)):=by show _=_;rw[lk dj,ES,hse,tC,cX,RV (by omega)]
   have Yb:Hid (∀u,cN M W3 u->cG u):=fun u hu=>HT.below (hu.low hM (aO HU3.size (ai _)) HU3);have xx:Hid (s.toArray.size=s.length/\al.toArray.size=al.length):=⟨by simp,by simp⟩;have AL:Hid (∀u,(u=wr\/u=wr.drew)->Cw 76 #[.string ⟨s.toArray⟩,Iq w,Iq a7] u fun e u'=>e=Rw (.string ⟨al.toArray⟩)/\Hid (Bt wr u')):=fun u hu=>by
    have iD:Bt wr u:=by
     rcases hu with rfl|rfl;·exact aj _ _
     ·exact(aj _ _).drew
    refine(J9 ⟨s.toArray⟩ w a7 u (Yb u ((HC2.trans HC).trans (cN.below iD))) (by show s.toArray.size<=_;rw[xx.1];omega) (by omega) (by omega)).mono ?_;rintro e u' ⟨rfl,q⟩;exact⟨by rw[<-tC],iD.trans (q.mono iD.size)⟩
   have WR:Hid (∀u,Bt wr u->Cw 74 #[.agg #[Pq K,Iq f,Iq g,Iq bd,Iq cx,Iq cy,Iq ca,Iq cb],Iq x,Iq (y+k),.string ⟨al.toArray⟩] u fun e u'=>e=Rw (.tuple #[])/\Hid (Cv 42 u' M W H (txK W H f g bd cx cy ca cb x w a7 (ls.take (k+1)) y c))/\Hid (cN M w2 u')):=fun u hu=>by have hwu:cN M w2 u:=HC.trans (cN.below hu);have __:=((HC2.trans hwu).block K (zz008 HCS.klt HB3.size) HCS.ne).trans (HB3.block K HCS.klt);have pB:CS 100 42 u K M cap W H (txK W H f g bd cx cy ca cb x w a7 (ls.take k) y c):=⟨__.trans HCS.kb,HV.keep (hu.block M HV.lt),HCS.ne,HCS.hc⟩;have I6:PAll W H (txK W H f g bd cx cy ca cb x w a7 (ls.take k) y c):=wP W H f g bd cx cy ca cb (P:=PAll W H) x w a7 _ y c (fun y s c hc=>hc.wrL hW hH _ _ _ _ _ _ _ _ _ _) HP;refine(zc u pB hW hH I6 (Yb u (HC2.trans hwu)) x (y+k) f g bd cx cy ca cb ⟨al.toArray⟩ (by show al.toArray.size<=_;rw[xx.2];omega) (by omega) Y0 Ul).mono ?_;rintro e u' ⟨rfl,q1,q2⟩;exact⟨rfl,by rw[HNX.out];exact q1,hwu.trans q2⟩
   obtain⟨x0,x1,x2,x3,x4,x5,x6,x7,t0,t1,t2,t3,t4⟩:=HS wr (HC2.trans HC);have hwy:IntKind.i64.wrap (y+(k:Int))=y+k:=IntWalk.i64_in _ (by omega);clear hg hse tC HNX HV Yb y0 y1 y2 y3 y4 y5 y6 y7 q0 q1 q2 q3 q4;go_wp2_with fail;go_region_held(fun W_=>W_.cell? (az A 0)=some (Pq K)/\W_.cell? (az A 1)=some (Iq f)/\W_.cell? (az A 2)=some (Iq g)/\W_.cell? (az A 3)=some (Iq bd)/\W_.cell? (az A 4)=some (Iq cx)/\W_.cell? (az A 5)=some (Iq cy)/\W_.cell? (az A 6)=some (Iq ca)/\W_.cell? (az A 7)=some (Iq cb)/\W_.cell? (az (A+1+1) 0)=some (Iq x)/\W_.cell? (az (A+1+1) 1)=some (Iq y)/\W_.cell? (az (A+1+1) 2)=some (Iq w)/\W_.cell? (az (A+1+1) 3)=some (Iq hh)/\W_.cell? (az (A+1) 8)=some (Iq a7)) (go_keep) (first
    |(go_at_call 76;refine ao (AL _ (by first|exact .inl rfl|exact .inr rfl)) ?_;rintro e u1 ⟨rfl,HU1⟩;obtain⟨d0,d1,d2,d3,d4,d5,d6,d7,e0,e1,e2,e3,e4⟩:=HS u1 ((HC2.trans HC).trans (cN.below HU1)))
    |(go_at_call 74;refine ao (WR _ HU1) ?_;rintro e u2 ⟨rfl,HV5,yb⟩;obtain⟨i0,i1,i2,i3,i4,i5,i6,i7,j0,j1,j2,j3,j4⟩:=HS u2 (HC2.trans yb)));all_goals
    go_wp2;go_roundw;case rel=>exact⟨k+1,hlt,by go_num,HV5,yb⟩
    case measure=>simp[intOf];omega
  ·have aN:¬(k:Int)<(m:Int):=by omega
   obtain rfl:k=m:=by omega
   go_wp2;go_end0;exact⟨rfl,HV,(cN.below HB3).trans (HC2.trans HC)⟩
end
def pnF(W H:Nat)(f g bd cx cy ca cb kd a6 a7 a8 b0:Int)(t:List UInt8)(x y w hh:Int)(c:Nat->Nat->Ce):Nat->Nat->Ce:=
 if kd=3/\a6=1/\2<=w/\2<=hh then bdF W H f g bd cx cy ca cb x y w hh (if 0<b0 then tu W H c x y w hh f g bd cx cy ca cb else c)
 else if kd=5/\1<=w then txK W H f g bd cx cy ca cb x w a7 ((js t a8 w).take hh.toNat) y (if 0<b0 then tu W H c x y w hh f g bd cx cy ca cb else c)
 else if 0<b0 then tu W H c x y w hh f g bd cx cy ca cb else c
theorem Qy{W H}{P:(Nat->Nat->Ce)->Prop}{f g bd cx cy ca cb kd a6 a7 a8 b0}{t}{x y w hh}{c}(hf:∀c,P c->P (tu W H c x y w hh f g bd cx cy ca cb))(hs:∀x y s c,P c->P (wrL W H f g bd cx cy ca cb x y s c))(h:P c):P (pnF W H f g bd cx cy ca cb kd a6 a7 a8 b0 t x y w hh c):=by
 have h1:P (if 0<b0 then tu W H c x y w hh f g bd cx cy ca cb else c):=by
  split;·grind
  ·exact h
 unfold pnF;split;·simp_all[N3]
 ·split;all_goals simp_all[wP]
section
variable{K M cap W H:Nat} {c:Nat->Nat->Ce}
theorem TS  w  (h:CS 100 42 w K M cap W H c) (hW:1<=W/\W<=400) (hH:1<=H/\H<=400) (hp:PAll W H c)  x y a b f g bd cx cy ca cb  :
 Cw 39 #[Pq K,rv x y a b,sv f g bd,rv cx cy ca cb] w fun e w'=>e=Rw (.tuple #[])/\Cv 42 w' M W H (tu W H c x y a b f g bd cx cy ca cb)/\cN M w w':=
 yq w h hW hH hp x y a b f g bd cx cy ca cb (dG W H x y a b cx cy ca cb).1 (dG W H x y a b cx cy ca cb).2.1 (dG W H x y a b cx cy ca cb).2.2.1 (dG W H x y a b cx cy ca cb).2.2.2 rfl
theorem LQ(U0 w0:World)(h:CS 100 42 w0 K M cap W H c)(hW:1<=W/\W<=400)(hH:1<=H/\H<=400)(hp:PAll W H c)(ht:cG U0)(hU:Bt U0 w0)(hM:U0.heap.size<=M)(f g bd cx cy ca cb:Int)(kd a0 a1 a2 a3 a4 a5 a6 a7 a8 a9 b0 b1 up:Int)(tx:ByteArray)(kv:Value)(x y w hh:Int)(hs:tx.size<=100000)
 (hx:-100000000000<=x/\x<=100000000000) (hy:-100000000000<=y/\y<=100000000000) (hw:0<=w/\w<=100000) (SB:0<=hh/\hh<=100000) (Y0:-1000000000000<=cy/\cy<=1000000000000) (Ul:-1000000000000<=cb/\cb<=1000000000000):
 Cw 17 #[MC K f g bd cx cy ca cb,gY kd a0 a1 a2 a3 a4 a5 a6 a7 a8 a9 b0 b1 tx kv up,rv x y w hh] w0 fun e w'=>e=Rw (.tuple #[])/\Cv 42 w' M W H (pnF W H f g bd cx cy ca cb kd a6 a7 a8 b0 tx.data.toList x y w hh c)/\cN M w0 w':=by
 have yw:=h.cv.lt;obtain⟨A,hA⟩:=ag w0.heap.size;obtain⟨W3,kT⟩:=ag (((w0.alloc (.cells #[Pq K,Iq f,Iq g,Iq bd,Iq cx,Iq cy,Iq ca,Iq cb] 60)).alloc (.cells #[Iq kd,Iq a0,Iq a1,Iq a2,Iq a3,Iq a4,Iq a5,Iq a6,Iq a7,Iq a8,Iq a9,Iq b0,Iq b1,.string tx,kv,Iq up] 63)).alloc (.cells #[Iq x,Iq y,Iq w,Iq hh] 58));have HB3:Hid (Bt w0 W3):=by rw[<-kT];exact((((Gr.refl w0).alloc _).alloc _).alloc _).below
 have qR:W3.heap[A]?=some (.cells #[Pq K,Iq f,Iq g,Iq bd,Iq cx,Iq cy,Iq ca,Iq cb] 60 (0,0)):=by rw[<-kT,<-hA,du _ _ _ (by rw[aI,aI];omega),du _ _ _ (by simp_all)];exact heap_alloc_new _ _
 have hn3:W3.heap[A+1]?=some (.cells #[Iq kd,Iq a0,Iq a1,Iq a2,Iq a3,Iq a4,Iq a5,Iq a6,Iq a7,Iq a8,Iq a9,Iq b0,Iq b1,.string tx,kv,Iq up] 63 (0,0)):=by rw[<-kT,<-hA,du _ _ _ (by simp_all),<-World.size_alloc];exact heap_alloc_new _ _
 have BJ:W3.heap[A+1+1]?=some (.cells #[Iq x,Iq y,Iq w,Iq hh] 58 (0,0)):=by rw[<-kT,<-hA,<-World.size_alloc,<-World.size_alloc];exact heap_alloc_new _ _
 have Wn:Hid (A+1+1<W3.heap.size):=(aM.1 BJ).1;have Sg:Hid (M<A):=by rw[<-hA];exact yw
 have HS:Hid (∀u,cN M W3 u->(u.cell? (az A 0)=some (Pq K)/\u.cell? (az A 1)=some (Iq f)/\u.cell? (az A 2)=some (Iq g)/\u.cell? (az A 3)=some (Iq bd)/\u.cell? (az A 4)=some (Iq cx)/\u.cell? (az A 5)=some (Iq cy)/\u.cell? (az A 6)=some (Iq ca)/\u.cell? (az A 7)=some (Iq cb))/\(u.cell? (az (A+1) 0)=some (Iq kd)/\u.cell? (az (A+1) 1)=some (Iq a0)/\u.cell? (az (A+1) 2)=some (Iq a1)/\u.cell? (az (A+1) 3)=some (Iq a2)/\u.cell? (az (A+1) 4)=some (Iq a3)/\u.cell? (az (A+1) 5)=some (Iq a4)/\u.cell? (az (A+1) 6)=some (Iq a5)/\u.cell? (az (A+1) 7)=some (Iq a6)/\u.cell? (az (A+1) 8)=some (Iq a7)/\u.cell? (az (A+1) 9)=some (Iq a8)/\u.cell? (az (A+1) 10)=some (Iq a9)/\u.cell? (az (A+1) 11)=some (Iq b0)/\u.cell? (az (A+1) 12)=some (Iq b1)/\u.cell? (az (A+1) 13)=some (.string tx)/\u.cell? (az (A+1) 14)=some (kv)/\u.cell? (az (A+1) 15)=some (Iq up))/\u.cell? (az (A+1+1) 0)=some (Iq x)/\u.cell? (az (A+1+1) 1)=some (Iq y)/\u.cell? (az (A+1+1) 2)=some (Iq w)/\u.cell? (az (A+1+1) 3)=some (Iq hh)):=fun u hu=>by
  have e1:=(hu.block A (by grind) (by omega)).trans qR;have e2:=(hu.block (A+1) (by grind) (by omega)).trans hn3;have e3:=(hu.block (A+1+1) Wn (by omega)).trans BJ;refine⟨⟨?_,?_,?_,?_,?_,?_,?_,?_⟩,⟨?_,?_,?_,?_,?_,?_,?_,?_,?_,?_,?_,?_,?_,?_,?_,?_⟩,?_,?_,?_,?_⟩;all_goals first
   |(rw[Lib.cell_of_heap e1];rfl)
   |(rw[Lib.cell_of_heap e2];rfl)
   |(rw[Lib.cell_of_heap e3];rfl)
 obtain⟨⟨z0,z1,z2,z3,z4,z5,z6,z7⟩,⟨n0,n1,n2,n3,n4,n5,n6,n7,n8,n9,ZJ,ZK,ZL,Vd,ZN,ZO⟩,r0,r1,r2,r3⟩:=HS W3 (cN.refl _ _);have OP:=hU.trans (HB3.mono hU.size);have HUU:Hid (∀u,cN M W3 u->Bt U0 u):=fun u hu=>hu.low hM OP.size OP;have HCS:Hid (∀c1 u,cN M W3 u->Cv 42 u M W H c1->CS 100 42 u K M cap W H c1):=fun c1 u hu hv=>⟨((hu.block K (zz008 h.klt HB3.size) h.ne).trans (HB3.block K h.klt)).trans h.kb,hv,h.ne,h.hc⟩;have Bo:Hid (Cv 42 W3 M W H c):=h.cv.keep (HB3.block M yw);obtain⟨c1,hc1⟩:=ag (if 0<b0 then tu W H c x y w hh f g bd cx cy ca cb else c);have xr:Hid (PAll W H c1):=by
  rw[<-hc1];show PAll W H (if 0<b0 then _ else c);split;·exact hp.filX hW hH _ _ _ _ _ _ _ _ _ _ _
  ·exact hp
 have PBc:Hid (2<=w->2<=hh->∀u,cN M W3 u->Cv 42 u M W H c1->Cw 40 #[MC K f g bd cx cy ca cb,rv x y w hh] u fun e u'=>e=Rw (.tuple #[])/\Hid (Cv 42 u' M W H (bdF W H f g bd cx cy ca cb x y w hh c1))/\Hid (cN M W3 u')):=fun q1 q2 u hu hv=>(tL U0 u (HCS c1 u hu hv) hW hH xr ht (HUU u hu) hM f g bd cx cy ca cb x y w hh hx hy (by omega) (by omega) Y0 Ul).mono fun e u' ⟨h1,h2,h3⟩=>⟨h1,h2,hu.trans h3⟩;have PTc:Hid (∀u,cN M W3 u->Cv 42 u M W H c1->Cw 41 #[MC K f g bd cx cy ca cb,gY kd a0 a1 a2 a3 a4 a5 a6 a7 a8 a9 b0 b1 tx kv up,rv x y w hh] u fun e u'=>e=Rw (.tuple #[])/\Hid (Cv 42 u' M W H (txK W H f g bd cx cy ca cb x w a7 ((js tx.data.toList a8 w).take hh.toNat) y c1))/\Hid (cN M W3 u')):=fun u hu hv=>(xQ U0 u (HCS c1 u hu hv) hW hH xr ht (HUU u hu) hM f g bd cx cy ca cb kd a0 a1 a2 a3 a4 a5 a6 a7 a8 a9 b0 b1 up tx kv x y w hh hs hx hy hw SB Y0 Ul).mono fun e u' ⟨h1,h2,h3⟩=>⟨h1,h2,hu.trans h3⟩;have FI:Hid (0<b0->Cw 39 #[Pq K,rv x y w hh,sv f g bd,rv cx cy ca cb] W3 fun e u'=>e=Rw (.tuple #[])/\Hid (Cv 42 u' M W H c1)/\Hid (cN M W3 u')):=fun hb=>by rw[<-hc1,if_pos hb];exact TS W3 (HCS c W3 (cN.refl _ _) Bo) hW hH hp x y w hh f g bd cx cy ca cb
 have HN1:Hid (¬0<b0->c1=c):=fun hb=>by grind
 have WQ:((kd==3)=true/\(a6==1)=true/\2<=w/\2<=hh/\Hid (pnF W H f g bd cx cy ca cb kd a6 a7 a8 b0 tx.data.toList x y w hh c=bdF W H f g bd cx cy ca cb x y w hh c1))\/((kd==3)=true/\(kd==5)=false/\(a6==1)=true/\2<=w/\¬2<=hh/\Hid (pnF W H f g bd cx cy ca cb kd a6 a7 a8 b0 tx.data.toList x y w hh c=c1))\/((kd==3)=true/\(kd==5)=false/\(a6==1)=true/\¬2<=w/\Hid (pnF W H f g bd cx cy ca cb kd a6 a7 a8 b0 tx.data.toList x y w hh c=c1))\/((kd==3)=true/\(kd==5)=false/\(a6==1)=false/\Hid (pnF W H f g bd cx cy ca cb kd a6 a7 a8 b0 tx.data.toList x y w hh c=c1))\/((kd==3)=false/\(kd==5)=true/\1<=w/\Hid (pnF W H f g bd cx cy ca cb kd a6 a7 a8 b0 tx.data.toList x y w hh c=txK W H f g bd cx cy ca cb x w a7 ((js tx.data.toList a8 w).take hh.toNat) y c1))\/((kd==3)=false/\(kd==5)=true/\¬1<=w/\Hid (pnF W H f g bd cx cy ca cb kd a6 a7 a8 b0 tx.data.toList x y w hh c=c1))\/((kd==3)=false/\(kd==5)=false/\Hid (pnF W H f g bd cx cy ca cb kd a6 a7 a8 b0 tx.data.toList x y w hh c=c1)):=by
  unfold pnF;rw[hc1];by_cases k3:kd=3;·grind
  ·grind
 obtain⟨cz,hcz⟩:=ag (pnF W H f g bd cx cy ca cb kd a6 a7 a8 b0 tx.data.toList x y w hh c);rw[hcz]at WQ⊢;clear h hp ht hU OP qR hn3 BJ hc1 hcz;unfold MC rv at PBc;unfold MC rv gY at PTc;unfold sv rv at FI;unfold MC gY rv;go_enter func17,ntmps17;by_cases hb:0<b0;focus go_wp2_with fail;clear kT hA;refine(FI hb).mono ?_;rintro e u1 ⟨rfl,_E,kx⟩;clear z0 z1 z2 z3 z4 z5 z6 z7 n0 n1 n2 n3 n4 n5 n6 n7 n8 n9 ZJ ZK ZL Vd ZN ZO r0 r1 r2 r3;obtain⟨⟨z0,z1,z2,z3,z4,z5,z6,z7⟩,⟨n0,n1,n2,n3,n4,n5,n6,n7,n8,n9,ZJ,ZK,ZL,Vd,ZN,ZO⟩,r0,r1,r2,r3⟩:=HS u1 kx
 rotate_left;focus
  have _E:Hid (Cv 42 W3 M W H c1):=by rw[HN1 hb];exact Bo
  have kx:Hid (cN M W3 W3):=cN.refl _ _
 all_goals
  rcases WQ with⟨k1,k2,k3,k4,HE⟩|⟨k1,k0,k2,k3,k4,HE⟩|⟨k1,k0,k2,k3,HE⟩|⟨k1,k0,k2,HE⟩|⟨k1,k2,k3,HE⟩|⟨k1,k2,k3,HE⟩|⟨k1,k2,HE⟩;all_goals
   go_wp2_with(first|(go_at_call 40;refine ao (PBc k3 k4 _ kx _E) ?_;rintro e u2 ⟨rfl,J0,HC2⟩)|(go_at_call 41;refine ao (PTc _ kx _E) ?_;rintro e u2 ⟨rfl,J0,HC2⟩));go_end0;first
    |exact⟨rfl,by rw[HE.out];exact J0,(cN.below HB3).trans HC2⟩
    |exact⟨rfl,by rw[HE.out];exact _E,(cN.below HB3).trans kx⟩
end
