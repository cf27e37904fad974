import Derived.CallsIn
import Derived.OrdersIn
import Derived.OrdersHeld
import Derived.TacticsIn
import Derived.RangeFuncCalls
import Derived.Deep.RegionHeld
import Derived.Test.YtadhgppeafpdgaaGreatDoorQ00
import Derived.Lib.Bytealg
import Derived.Test.YtadhgppeafpdgaaGreatDoorQ40
import Derived.Test.YtadhgppeafpdgaaGreatDoorQ01
import Derived.Test.YtadhgppeafpdgaaGreatDoorQ35
import Derived.Test.YtadhgppeafpdgaaGreatDoorQ33
set_option linter.all false
set_option maxRecDepth 100000
set_option maxHeartbeats 16000000
namespace Go.Proofs.YtadhgppeafpdgaaGreatDoor
open Go.RowKit Go.Sort Go.Proofs.Tryz
section
open Go
def sZ(o:Oper):Bool:=match o.op with|.defer _=>false|_=>true
theorem PO{P}{uW}{Q}{n l i}{K K'}{a}{w}(hd:uW.all sZ=true)(hL:¬LetsOut Q)(hK:∀a w,K a w->K' a w)(h:wpOp P uW Q i K a w):wpOpIn (Fence.wide.inRound l) n P uW Q i K' a w:=by
 unfold wpOp at h;unfold wpOpIn;cases ho:uW[i]? with
 |none=>rw[ho]at h;exact hK _ _ h
 |some o=>
  rw[ho]at h;dsimp only at h⊢;have hn:∀c,o.op≠.defer c:=fun c hc=>by grind[sZ]
  split at h
  ·rename_i hw;rw[if_pos hw];rcases h with h|⟨_,h⟩;case inr=>exact absurd h hL
   refine⟨fun _ _=>trivial,?_⟩;show o.uponIn _ n P a K' Q ((Oper.semAt (some l) a.eval o).run P w);rw[Oper.semAt_some l a.eval o hn];unfold Oper.wp at h;generalize(execOp a.eval o).run P w=r at*;cases r with
   |ok x w'=>
    cases x<;>simp only[Oper.upon,Oper.uponIn]at h⊢;case value u=>grind
    case skip=>grind
    case defer d=>grind
    case enter f args=>refine⟨fun q=>(by cases q),CallsIn.inRound l (callsIn_wide.2 (ai h fun e w'' he=>?_))⟩;grind
    case row row args=>refine⟨fun q=>(by cases q),fun c cs _=>?_⟩;obtain⟨v,w',r,s⟩:=h c cs;exact⟨v,w',hK _ _ r,stepsIn_wide.2 s⟩
   |halt x w'=>cases x<;>simp only[Oper.upon,Oper.uponIn]at h⊢;omega
  ·rename_i hw;rw[if_neg hw];exact⟨fun _ _=>trivial,hK _ _ h⟩
theorem xh{P}{uW}{Q}{n l}{md}(hd:uW.all sZ=true)(hL:¬LetsOut Q):∀  fuel   Ps   a   w,wpAny P md uW Q fuel Ps a w->wpAnyIn (Fence.wide.inRound l) n P md uW Q fuel Ps a w
 |0,_,_,_,h=>h
 |fuel+1,_,_,_,h=>⟨h.1,fun i hi=>PO hd hL (fun a w=>xh hd hL fuel _ a w) (h.2 i hi)⟩
theorem zR{P}{uW}{Q}{n l id}{S}{a}{w}(hd:uW.all sZ=true)(hL:¬LetsOut Q)(hm:P.follows .mixedOrders=true)(hS:S w.drew)(h:S w.drew->wpAnyH P .any uW Q S uW.size (Array.replicate uW.size false) a w.drew):(Code.region id uW true).wpIn (Fence.wide.inRound l) n P Q a w:=
 wpIn_region_any hm (xh hd hL _ _ _ _ (wpAny_of_held _ _ _ _ (h hS)))
end
section
open Go.Shelf
attribute[local go_sem] Oper.semAt_some
theorem rk:∀  t,(Lib.indexByte t 10=-1/\∀x∈t,x≠10)\/∃a b,t=a++10::b/\(∀x∈a,x≠10)/\Lib.indexByte t 10=(a.length:Int)
 |[]=>.inl ⟨rfl,fun x hx=>by cases hx⟩
 |c::t=>by
  by_cases e:c=10;·right;refine⟨[],t,by rw[e];rfl,fun x hx=>(by cases hx),?_⟩;unfold Lib.indexByte;rw[e];rfl
  ·have e2:(c==(10:UInt8))=false:=by simpa using e
   rcases rk t with⟨h1,h2⟩|⟨a,b,h1,h2,h3⟩
   ·left;refine⟨?_,fun x hx=>?_⟩;·unfold Lib.indexByte;grind
    grind
   ·right;refine⟨c::a,b,by grind,fun x hx=>?_,?_⟩;·grind
    ·unfold Lib.indexByte;grind
theorem wJ(s:ByteArray)(c:Int)(w:World):Cw 276 #[.string s,.int .u8 c] w fun e w'=>e=Rw (Iq (Lib.indexByte s.data.toList c.toNat.toUInt8))/\w'=w:=by go_enter func276,ntmps276;go_wp2;rw[run_callFunc_extern func284 (by kernel_rfl) (by kernel_rfl) (by kernel_rfl) (e:=Extern.BytealgIndexByte.indexByte) (by kernel_rfl),Lib.run_indexByteString];simp only[Result.andThen];rw[D4];go_wp2;go_ret;simp_all
theorem KX(s:ByteArray)(w:World):Cw 262 #[.string s,.string ⟨#[10]⟩] w fun e w'=>e=Rw (Iq (Lib.indexByte s.data.toList 10))/\w'=w:=by
  have C:Hid (∀w,Cw 276 #[.string s,.int .u8 10] w fun e w'=>e=Rw (Iq (Lib.indexByte s.data.toList 10))/\w'=w):=fun w=>wJ s 10 w;have ga:(({data:=#[10]}:ByteArray)[0]'(by show 0<1;omega))=10:=rfl;go_enter func262,ntmps262;go_wp2_with(go_at_call 276;refine(C _).mono ?_;rintro e w5 ⟨rfl,rfl⟩);all_goals
    go_ret;first
      |exact⟨rfl,rfl⟩
      | (refine⟨?_,rfl⟩;have h:([10]==s.toList)=true:=by assumption
         have e:s.data.toList=[10]:=by rw[<-Lib.toList_data];exact(beq_iff_eq.1 h).symm
         rw[e];rfl)
theorem O0(s:ByteArray)(w:World):Cw 246 #[.string s,.string ⟨#[10]⟩] w fun e w'=>e=Rw (Iq (Lib.indexByte s.data.toList 10))/\w'=w:=by have C:=qH<|fun w=>KX s w;go_enter func246,ntmps246;go_wp2_with(go_at_call 262;refine(C _).mono ?_;rintro e w5 ⟨rfl,rfl⟩);go_ret;simp_all
def lf(b0 b1 b2:Nat)(W W':World):Prop:=W'.heap[b0]?=W.heap[b0]?/\W'.heap[b1]?=W.heap[b1]?/\W'.heap[b2]?=W.heap[b2]?
theorem lf.trans{b0 b1 b2}{A B C}(h:lf b0 b1 b2 A B)(k:lf b0 b1 b2 B C):lf b0 b1 b2 A C:=⟨k.1.trans h.1,k.2.1.trans h.2.1,k.2.2.trans h.2.2⟩
def Lx(t:List UInt8):Array Value:=#[.string ⟨t.toArray⟩]
def Pu(b:Nat)(W:World):Nat:=match W.cell? (aq b 0)with
 |some (.string s)=>s.size
 |_=>0
theorem N8(a b:List UInt8)  n  (hn:n=a.length):(⟨(a++b).toArray⟩:ByteArray).extract 0 n=⟨a.toArray⟩:=by subst hn;apply ju;simp_all
theorem J_(a b:List UInt8)  n k  (hn:n=a.length) (hk:k=(a++b).length):(⟨(a++b).toArray⟩:ByteArray).extract n k=⟨b.toArray⟩:=by subst hn;subst hk;apply ju;simp_all
theorem pD(n:Nat)(hn:3<=n)(Bp Bs Bv:Nat)(t:List UInt8)(ht:t.length<=1000000)(W0:World)(En:Bp≠Bs)(hvs:Bv≠Bs)
 (hp:W0.heap[Bp]?=some (.cells #[.string ⟨#[10]⟩] 9 (0,0))) (hs:W0.heap[Bs]?=some (.cells #[.string ⟨t.toArray⟩] 9 (0,0))) (hv:W0.heap[Bv]?=some (.cells #[Iq 0] 3 (0,0))):
 MN Fence.wide n prog 244 #[Pq Bp,Pq Bs,Pq Bv] Lx Bs (lf Bp Bs Bv) (fun xs=>xs=du t) (fun x=>x.length<=t.length) (t.length+1) W0:=by
 intro k0 J W hW hJ hY h0;have vS:=(hW.block Bp (az.1 hp).1).trans hp;have hs1:=(hW.block Bs (az.1 hs).1).trans hs;have fj:=(hW.block Bv (az.1 hv).1).trans hv;have tn:Hid (W.heap[Bp]?=some (.cells #[.string ⟨#[10]⟩] 9 (0,0))/\W.heap[Bs]?=some (.cells #[.string ⟨t.toArray⟩] 9 (0,0))/\W.heap[Bv]?=some (.cells #[Iq 0] 3 (0,0))):=⟨vS,hs1,fj⟩;have cp:W.cell? (aq Bp 0)=some (.string ⟨#[10]⟩):=by simp[World.cell?,vS]
 have HJ:=qH<|hJ;have HY:Hid (∀bF x W1,J bF W1->bF.length<t.length+1->x.length<=t.length->YieldAt Fence.wide (n-1) prog k0 (Lx x) W1 fun e W'=>e=.returned (.bool true)/\J (bF++[x]) W'/\lf Bp Bs Bv W1 W'):=hY;have VJ:Hid ((du t).length<=t.length+1):=by have h1:=qI t;have h2:=List.count_le_length (a:=(10:UInt8)) (l:=t);show _<=_;omega
 have HJ0:=qH<|h0;clear hp hs hv vS hs1 fj hJ hY h0;refine callsIn_of_wp func244 rfl trivial ?_ rfl;simp only[ntmps244,kQ,cP,fh,Nat.reduceAdd,Nat.reduceSub,rV,rW,rX,rY,pL,ny];gi_wp2;gi_loopw[7] (fun _ wr=>∃(x:List UInt8) (bF:List (List UInt8)),Hid (bF++du x=du t)/\x.length<=t.length/\Hid (wr.heap[Bp]?=some (.cells #[.string ⟨#[10]⟩] 9 (0,0))/\wr.heap[Bs]?=some (.cells #[.string ⟨x.toArray⟩] 9 (0,0))/\wr.heap[Bv]?=some (.cells #[Iq 0] 3 (0,0)))/\Hid (J bF wr)) (fun _ wr=>Pu Bs wr);case atStart=>exact⟨t,[],rfl,ae _,tn,HJ0⟩
 case round=>
  obtain⟨x,bF,mQ,WA,HP,Xl⟩:=hrel;clear cp tn HJ0;have Hv:bF.length<t.length+1:=by have h1:=congrArg List.length mQ;rw[aI]at h1;have h2:=qI x;have h3:=VJ.out;omega
  have cp:wr.cell? (aq Bp 0)=some (.string ⟨#[10]⟩):=by simp[World.cell?,HP.1]
  have cs:wr.cell? (aq Bs 0)=some (.string ⟨x.toArray⟩):=by simp[World.cell?,HP.2.1]
  have cv:wr.cell? (aq Bv 0)=some (Iq 0):=by simp[World.cell?,HP.2.2]
  have IX:Hid (Calls prog 246 #[.string ⟨x.toArray⟩,.string ⟨#[10]⟩] wr fun e w'=>e=.returned (Iq (Lib.indexByte x 10))/\w'=wr):=O0 _ _;rcases rk x with⟨h1,h2⟩|⟨a,b,h1,h2,h3⟩;·rw[h1]at IX;have HX:=qH<|paras_one x h2;obtain⟨fn,tmps,assign,body,hy,hR⟩:=HY bF x wr Xl Hv WA;dsimp only[Lx]at hy;have HR:=qH<|hR;clear hR h1 h2 HP;gi_wp2_with fail;refine⟨trivial,fun _=>by omega,(callsIn_wide.2 IX).mono ?_⟩;rintro e w5 ⟨rfl,TT⟩;obtain rfl:=TT.symm;clear IX;gi_wp2;refine⟨fun _=>by omega,HR.mono ?_⟩;rintro e W3 ⟨rfl,RK,wD⟩;gi_wp2;go_end0;exact⟨⟨_,rfl⟩,_,by rw[<-mQ.out,HX.out],RK⟩
  ·rw[h3]at IX;have HX:Hid (du x=a::du b):=by show _=_;rw[h1];exact xQ a b h2
   have aO:x.length=a.length+1+b.length:=by rw[h1];simp;omega
   have ut:=Xl.out;obtain⟨fn,tmps,assign,body,hy,hR⟩:=HY bF a wr Xl Hv (by omega);dsimp only[Lx]at hy;have HR:=qH<|hR;have eV:(⟨x.toArray⟩:ByteArray).size=x.length:=by simp[ByteArray.size]
   have e1:(⟨x.toArray⟩:ByteArray).extract 0 a.length=⟨a.toArray⟩:=by rw[h1];exact N8 a (10::b) _ rfl
   have e2:(⟨x.toArray⟩:ByteArray).extract (a.length+1) (a.length+1+b.length)=⟨b.toArray⟩:=by rw[<-aO];rw[h1,show a++10::b=(a++[10])++b by simp];exact J_ (a++[10]) b _ _ (by simp) rfl
   clear hR h1 h2 h3;gi_wp2_with fail;refine⟨trivial,fun _=>by omega,(callsIn_wide.2 IX).mono ?_⟩;rintro e w5 ⟨rfl,TT⟩;obtain rfl:=TT.symm;clear IX;gi_wp2;refine⟨fun _=>by omega,HR.mono ?_⟩;clear HR hy;rintro e W3 ⟨rfl,RK,wD⟩;have Hu:=wD.1.trans HP.1;have _x:=wD.2.1.trans HP.2.1;have hv3:=wD.2.2.trans HP.2.2;have cp3:W3.cell? (aq Bp 0)=some (.string ⟨#[10]⟩):=by simp[World.cell?,Hu]
   have cs3:W3.cell? (aq Bs 0)=some (.string ⟨x.toArray⟩):=by simp[World.cell?,_x]
   have fs3:W3.frozen? (aq Bs 0)=false:=frozen_of_row _ _ _ _ _ _x;obtain⟨W4,vR⟩:=af (W3.setCell (aq Bs 0) (.string ⟨b.toArray⟩));have Mm:Hid (W4.heap[Bp]?=some (.cells #[.string ⟨#[10]⟩] 9 (0,0))/\W4.heap[Bs]?=some (.cells #[.string ⟨b.toArray⟩] 9 (0,0))/\W4.heap[Bv]?=some (.cells #[Iq 0] 3 (0,0))):=by rw[<-vR];exact⟨(bv _ (aq Bs 0) _ Bp En).trans Hu,Boxed.set (t:=9) (.string ⟨b.toArray⟩) _x,(bv _ (aq Bs 0) _ Bv hvs).trans hv3⟩
   have HJ4:Hid (J (bF++[a]) W4):=by rw[<-vR];exact HJ _ _ _ _ RK (grownBy_setCell' W3 Bs _) (.inr rfl)
   have vM:Hid ((bF++[a])++du b=du t):=by show _=_;rw[<-mQ.out,HX.out];simp
   have Sp:Hid (Pu Bs W4=b.length):=by
    show _=_;have:W4.cell? (aq Bs 0)=some (.string ⟨b.toArray⟩):=by simp[World.cell?,Mm.2.1]
    unfold Pu;rw[this];simp[ByteArray.size]
   have HMX:Hid (Pu Bs wr=x.length):=by show _=_;unfold Pu;rw[cs];exact eV
   clear Hu _x hv3 RK wD cp cs cv HP Xl ut;gi_wp2;go_roundw;case rel=>grind
   case measure=>rw[Sp.out,HMX.out];omega
attribute[local go_sem] Oper.semAt_some
theorem splitSeq0_any(s:ByteArray)(W:World):
 Cw 212 #[.string s,.string ⟨#[10]⟩,Iq 0] W fun e w'=>e=Rw (.func (.func 244) #[] #[Pq (W.heap.size+1),Pq W.heap.size,Pq (W.heap.size+1+1)])/\w'=((W.alloc (.cells #[.string s] 9)).alloc (.cells #[.string ⟨#[10]⟩] 9)).alloc (.cells #[Iq 0] 3):=by go_enter func212,ntmps212;go_wp2;go_ret;simp_all
theorem pE(s:ByteArray)(W:World):
 Cw 177 #[.string s,.string ⟨#[10]⟩] W fun e w'=>e=Rw (.func (.func 244) #[] #[Pq (W.heap.size+1),Pq W.heap.size,Pq (W.heap.size+1+1)])/\w'=((W.alloc (.cells #[.string s] 9)).alloc (.cells #[.string ⟨#[10]⟩] 9)).alloc (.cells #[Iq 0] 3):=by have C:=qH<|splitSeq0_any s;go_enter func177,ntmps177;go_wp2_with(go_at_call 212;refine(C _).mono ?_;rintro e w5 ⟨rfl,rfl⟩);go_ret;simp_all
theorem xJ{b0 b1 b2 B}(h0:b0<B)(h1:b1<B)(h2:b2<B)  W   l   x  (hl:B<=l):lf b0 b1 b2 W (W.putObj l x):=by have hg:=grownBy_putObj' W l x;have key:∀b,b<B->(W.putObj l x).heap[b]?=W.heap[b]?:=fun b hb=>World.putObj_heap_other (by omega);exact⟨key _ h0,key _ h1,key _ h2⟩
theorem SV  t  :0<=tW t/\tW t<=2*t.length:=by unfold tW;have h:=gB (ap t);have h1:=(dp _ h (bi (ap t)).length);grind[cu,ap,bp]
theorem Gs(s:ByteArray)(W:World)(ht:aL W)(hs:s.size<=4000):
 Calls prog 155 #[.string s] W fun e W'=>e=.returned (Iq (QH s.data.toList))/\Below W.heap.size W W':=by
 obtain⟨t,OR⟩:=af s.data.toList;have uy:s=⟨t.toArray⟩:=by rw[<-OR]
 have OQ:t.length<=4000:=by rw[<-OR,gc];exact hs
 rw[OR];subst uy;clear OR hs;refine(callsIn_wide (n:=6)).1 ?_;refine callsIn_of_wp_marks func155 rfl trivial ?_ rfl;simp only[ntmps155,kQ,cP,fh,Nat.reduceAdd,Nat.reduceSub,rV,rW,rX,rY,pL,ny];gi_wp2_with fail;refine⟨trivial,(callsIn_wide.2 (pE ⟨t.toArray⟩ _)).mono ?_⟩;rintro e w' ⟨rfl,rfl⟩;obtain⟨S,hS⟩:=af W.heap.size;have bO:=Boxed.new W 3 (Iq 0);obtain⟨W0,bc⟩:=af ((((W.alloc (.cells #[Iq 0] 3)).alloc (.cells #[.string ⟨t.toArray⟩] 9)).alloc (.cells #[.string ⟨#[10]⟩] 9)).alloc (.cells #[Iq 0] 3));have bO0:Boxed W0 S 3 (Iq 0):=by rw[<-bc,<-hS];exact((bO.alloc _).alloc _).alloc _
 have bS0:Boxed W0 (S+1) 9 (.string ⟨t.toArray⟩):=by rw[<-bc,<-hS];have:=Boxed.new (W.alloc (.cells #[Iq 0] 3)) 9 (.string ⟨t.toArray⟩);rw[aA]at this;exact(this.alloc _).alloc _
 have bP0:Boxed W0 (S+2) 9 (.string ⟨#[10]⟩):=by rw[<-bc,<-hS];have:=Boxed.new ((W.alloc (.cells #[Iq 0] 3)).alloc (.cells #[.string ⟨t.toArray⟩] 9)) 9 (.string ⟨#[10]⟩);rw[aA,aA]at this;exact this.alloc _
 have bV0:Boxed W0 (S+3) 3 (Iq 0):=by rw[<-bc,<-hS];have:=Boxed.new (((W.alloc (.cells #[Iq 0] 3)).alloc (.cells #[.string ⟨t.toArray⟩] 9)).alloc (.cells #[.string ⟨#[10]⟩] 9)) 3 (Iq 0);rw[aA,aA,aA]at this;exact this
 have oI:Below W.heap.size W W0:=by rw[<-bc];exact((((Gr.refl W).alloc _).alloc _).alloc _).alloc _|>.below
 have eV:W0.heap.size=S+4:=by rw[<-bc];simp;omega
 rw[aA,bc];gi_wp2;rw[hS]at oI;refine nh rfl (by omega) (gf:=244) (lb:=#[Pq (S+1+1),Pq (S+1),Pq (S+1+1+1)]) rfl trivial (enters_of func244 (by kernel_rfl) rfl)
  (pD 5 (by omega) (S+1+1) (S+1) (S+1+1+1) t (by omega) W0 (by omega) (by omega) bP0 bS0 bV0) (by omega) lf.trans (xJ (by omega) (by omega) (by omega)) (ag _ _) (fun _=>rfl)
  (fun bF W'=>(Boxed W' S 3 (Iq (R_ (bF.map tW)))/\Below S W W')/\W0.heap.size<=W'.heap.size)
  (OwnFrom.and (OwnFrom.and (Own.from (boxed_own S 3 (fun bF:List (List UInt8)=>Iq (R_ (bF.map tW)))) _) (ownFrom_below (by omega) (by omega))) (fun _ _ _ _ h hg _=>aH h hg.size))
  (fun bF A B row ⟨h,h2⟩ hg hr=>⟨⟨h.1.kept hg (fun e=>by grind),h.2.grown hg (by omega) (fun q hq=>by grind)⟩,aH h2 hg.size⟩)
  ⟨⟨bO0,oI⟩,ae _⟩
  (fun x a' W'=>a'={tmps:=#[.string ⟨t.toArray⟩,undef,Iq 0,Pq S,.string ⟨x.toArray⟩,.string ⟨t.toArray⟩,.func (.func 244) #[] #[Pq (S+1+1),Pq (S+1),Pq (S+1+1+1)],.string ⟨x.toArray⟩,undef,undef,undef,undef,undef],defers:=[]})
  (fun _ _ _ _ _ _ hs _ _=>hs)
  ?assign ?body ?done;case assign=>rintro k0 bF x W' K hI hK;dsimp only[Lx]at hK⊢;gi_wp2;exact hK _ _ (KeepsFrom.refl _ _) ⟨rfl,rfl,rfl⟩ hI rfl
 case body=>
  rintro k0 bF x a' W' ⟨⟨hv,hB⟩,hWl⟩ rfl hlt WA;have hc:=hv.cell;have hf:=hv.frozen;have Tg:=hB.size;have hxz:(⟨x.toArray⟩:ByteArray).size=x.length:=by simp[ByteArray.size]
  obtain⟨M,hM⟩:=af (R_ (bF.map tW));have BR:=SV x;obtain⟨y,hy⟩:=af (tW x);have HSN:Hid (R_ ((bF++[x]).map tW)=max M y):=by show _=_;rw[pK,yq,List.map_nil,Px,hM,hy]
  have CO:Hid (∀u,(u=W'\/u=W'.drew)->Calls prog 179 #[.string ⟨x.toArray⟩] u fun e u'=>e=.returned (Iq y)/\Hid (Below W'.heap.size W' u')/\u'.cell? (aq S 0)=some (Iq M)/\u'.frozen? (aq S 0)=false):=fun u hu=>by
   have jj:Below W'.heap.size W' u:=by
    rcases hu with rfl|rfl;·exact ag _ _
    ·exact(ag _ _).drew
   have Au:=(ht.below (w':=W') (by grind)).below jj;refine(q_ ⟨x.toArray⟩ u Au (by rw[hxz];omega)).mono ?_;rintro e u' ⟨rfl,q⟩;have qe:=jj.trans (q.mono jj.size);refine⟨by rw[<-hy];rfl,qe,?_,?_⟩;·rw[<-hM];exact(qe.cell (p:=(aq S 0)) hv.lt).trans hv.cell
   ·exact(vI (qe.block S hv.lt)).trans hv.frozen
  have om:Hid (∀u,Below W'.heap.size W' u->yT W0.heap.size (lf (S+1+1) (S+1) (S+1+1+1)) (fun bF W'=>(Boxed W' S 3 (Iq (R_ (bF.map tW)))/\Below S W W')/\W0.heap.size<=W'.heap.size) (bF++[x]) W' .normal {tmps:=#[],defers:=[]} (u.setCell (aq S 0) (Iq (max M y)))):=fun u hu=>by
   have Hz:Boxed u S 3 (Iq (R_ (bF.map tW))):=(hu.block S hv.lt).trans hv;have key:∀b,b≠S->b<W'.heap.size->(u.setCell (aq S 0) (Iq (max M y))).heap[b]?=W'.heap[b]?:=fun b hb hl=>(bv u (aq S 0) _ b hb).trans (hu.block b hl);refine⟨⟨aH hu.size (by simp),fun k o hk ho _=>?_⟩,⟨key _ (by omega) (by omega),key _ (by omega) (by omega),key _ (by omega) (by omega)⟩,⟨by rw[HSN.out];exact Hz.set _,?_⟩,aH hWl (aH hu.size (by simp))⟩;·grind
   ·exact(hB.trans (hu.mono (by omega))).setCell (p:=(aq S 0)) (ae _) _
  rw[hM]at hc;rw[hy]at BR;have kU:prog.follows .mixedOrders=true:=by kernel_rfl
  clear hM hy hv hB;gi_wp2_with fail;gi_region_with_o(refine⟨trivial,(CallsIn.inRound k0 (callsIn_wide.2 (CO _ (by grind)))).mono ?_⟩;rintro e wq ⟨rfl,bq,cq,fq⟩);all_goals(gi_wp2_with fail)
  all_goals exact om wq bq
 case done=>rintro D ys W' hD rfl ⟨⟨hv,hB⟩,hWl⟩ hK;have hc:=hv.cell;gi_wp2;refine⟨by simp,.inl ⟨_,_,rfl,run_takeDeferred hK,?_⟩⟩;exact⟨_,results_tmp rfl _ _ _,rfl,by rw[hS];exact hB.trans (belowK_b (w:=W) (by omega) W' D _ _ (by omega) hK rfl rfl)⟩
attribute[local go_sem] Oper.semAt_some
def dw(l:List (List UInt8)):List Value:=l.map fun r=>.string ⟨r.toArray⟩
theorem rK  l   x  :dw (l++[x])=dw l++[.string ⟨x.toArray⟩]:=by simp[dw]
def kX(t:List UInt8)(wrap w:Int):List (List UInt8):=if wrap=1 then(bG (bi (ap t)) w).map (·.T)else(du t).map fun p=>wk (one (bi (ap p))) w
theorem xM:∀  ls   k  (hk:k<ls.length)  t   u,(cI ls[k])[t]?=some u->(iR ls)[k*5+t]?=some u
 |[],k,hk,_,_,_=>by grind
 |x::ls,0,_,t,u,h=>by grind[cI,iR]
 |x::ls,k+1,hk,t,u,h=>by have hl:(cI x).length=5:=rfl;show(cI x++iR ls)[(k+1)*5+t]?=_;rw[yg (by omega),hl,show(k+1)*5+t-5=k*5+t by omega];exact xM ls k (by grind) t u h
theorem Dl:(prog.info? 9).map (fun i=>(i.zero,i.size,i.bytes))=some (some (.string ⟨#[]⟩),1,16):=by kernel_rfl
def KpL(W W':World):Prop:=∀(j:Nat) (c:Array Value) (fz:Nat×Nat),W.heap[j]?=some (.cells c 277 fz)->W'.heap[j]?=some (.cells c 277 fz)
theorem Vf{W:World}{n₀ k}{v}{xs}(h:W.ownsRow n₀ 9 1 v k xs){j}{c}{t}{fz}(hj:W.heap[j]?=some (.cells c t fz))(ht:t≠9):some j≠v.ownBlock:=by
 rcases h.2 with⟨rfl,_⟩|⟨g,cap,cM,rfl,_,hg,_⟩;·simp[Value.ownBlock]
 ·intro e;obtain rfl:j=g:=by simpa[Value.ownBlock]using e
  grind
theorem T7{W w1}{n₀ B k}{v v'}{xs}{tmp}(hv:Boxed W B 223 v)(hrow:W.ownsRow n₀ 9 1 v k xs)(jo:(W.alloc tmp).grownBy w1 v.ownBlock):KpL W (w1.setCell (aq B 0) v'):=fun j c fz e=>by
 have ut:=(az.1 e).1;have hjB:j≠B:=by rintro rfl;rw[show W.heap[j]?=_ from hv]at e;cases e
 rw[bv w1 (aq B 0) v' j hjB];exact(jo.block j (by rw[aA];omega) (Vf hrow e (by decide))).trans ((cG _ _ _ ut).trans e)
theorem Y1{W:World}{B}{v}{ls}(h:W.ownsRow B 277 5 v ls.length (iR ls)):∃p c,v=.slice p ls.length c/\(ls.length=0\/∃g cM,p=some (aq g 0)/\W.heap[g]?=some (.cells cM 277 (0,0))/\∀k (hk:k<ls.length)  t  u,(cI ls[k])[t]?=some u->W.cell? (aq g (k*5+t))=some u):=by
 rcases h.2 with⟨rfl,hz⟩|⟨g,cap,cM,rfl,_,hg,_⟩;·grind
 ·refine⟨some (aq g 0),cap,rfl,.inr ⟨g,cM,rfl,hg,fun k hk t u hu=>?_⟩⟩;have a0:=h.cells (g:=g) rfl (k*5+t) _ (xM ls k hk t u hu);have e0:((aq g 0):Addr).add (k*5+t)=(aq g (k*5+t)):=by unfold Addr.add;split<;>simp_all
  grind
theorem zF(kd a0 a1 a2 a3 a4 a5 a6 a7 a9 b0 b1 up:Int)(tx:ByteArray)(kv:Value)(w:Int)(W:World)(ht:aL W)(hs:tx.size<=100000)(hw:0<=w/\w<=100000):
 Calls prog 134 #[fO kd a0 a1 a2 a3 a4 a5 a6 a7 1 a9 b0 b1 tx kv up,Iq w] W fun e W'=>∃v,e=.returned v/\W'.ownsRow W.heap.size 9 1 v (kX tx.data.toList 1 w).length (dw (kX tx.data.toList 1 w))/\Below W.heap.size W W':=by
 obtain⟨i0,hi,dJ,fy,fB⟩:=info_parts Dl;obtain⟨S,hS⟩:=af W.heap.size;obtain⟨W3,ld⟩:=af (((W.alloc (.cells #[Iq kd,Iq a0,Iq a1,Iq a2,Iq a3,Iq a4,Iq a5,Iq a6,Iq a7,Iq 1,Iq a9,Iq b0,Iq b1,.string tx,kv,Iq up] 94)).alloc (.cells #[Iq w] 3)).alloc (.cells #[.slice none 0 0] 223));have fm:Hid (Below W.heap.size W W3):=by rw[<-ld];exact((((Gr.refl W).alloc _).alloc _).alloc _).below
 have dm:W3.heap[S]?=some (.cells #[Iq kd,Iq a0,Iq a1,Iq a2,Iq a3,Iq a4,Iq a5,Iq a6,Iq a7,Iq 1,Iq a9,Iq b0,Iq b1,.string tx,kv,Iq up] 94 (0,0)):=by rw[<-ld,<-hS,cG _ _ _ (by rw[aA,aA];omega),cG _ _ _ (by simp_all)];exact heap_alloc_new _ _
 have b_:Boxed W3 (S+1) 3 (Iq w):=by rw[<-ld,<-hS,<-World.size_alloc];exact(Boxed.new _ 3 (Iq w)).alloc _
 have hbl:Boxed W3 (S+1+1) 223 (.slice none 0 0):=by rw[<-ld,<-hS,<-World.size_alloc,<-World.size_alloc];exact Boxed.new _ _ _
 have n9:W3.cell? (aq S 9)=some (Iq 1):=by rw[Lib.cell_of_heap dm];rfl
 have Ut:W3.cell? (aq S 13)=some (.string tx):=by rw[Lib.cell_of_heap dm];rfl
 have w0:=b_.cell;have LN:Hid (Calls prog 176 #[.string tx,Iq w] W3 fun e W'=>∃v,e=.returned v/\Hid (W'.ownsRow W3.heap.size 277 5 v (bG (bi (ap tx.data.toList)) w).length (iR (bG (bi (ap tx.data.toList)) w)))/\Below W3.heap.size W3 W'):=KY tx w W3 (ht.below fm) (by omega) (by omega) (by omega);have TF:(bG (bi (ap tx.data.toList)) w).length<=1000000:=by
  have h1:(bG (bi (ap tx.data.toList)) w).length<=(bi (ap tx.data.toList)).length+1:=by
   unfold bG;split;·simp
   ·grind[gK]
  have h2:=cu (ap tx.data.toList);have h3:=bp tx.data.toList;have h4:tx.data.toList.length=tx.size:=by rw[gc];rfl
  omega
 have Mv:Hid (kX tx.data.toList 1 w=(bG (bi (ap tx.data.toList)) w).map (·.T)):=if_pos rfl;rw[Mv.out,rU];obtain⟨ls,_i⟩:=af (bG (bi (ap tx.data.toList)) w);rw[_i]at LN TF⊢;obtain⟨n,hn⟩:=af ls.length;have HN:=qH hn;have Rt:=qH hbl;have nD:=qH<|hbl.lt;rw[hS];have HB3':Hid (Below S W W3):=by rw[<-hS];exact fm
 clear _i ht dm b_ hbl Mv fm;unfold fO;go_enter func134,ntmps134;go_wp2_with fail;clear ld hS;refine LN.mono ?_;rintro e w2 ⟨v,rfl,HL,b2⟩;obtain⟨p,cp,rfl,_h⟩:=Y1 HL.out;have HLC:=qH _h;have HB2:=qH<|HB3'.trans (b2.mono (by have:=nD.out;omega));have HBX:Hid (Boxed w2 (S+1+1) 223 (.slice none 0 0)):=(b2.block _ nD).trans Rt;clear LN HL _h b2 n9 Ut w0;rw[hn]at TF⊢;go_wp2;go_loopw[17] (fun iv wr=>∃k:Nat,k<=n/\iv=Iq k/\Hid (Below S W wr)/\Hid (KpL w2 wr)/\∃vv,Hid (Boxed wr (S+1+1) 223 vv)/\Hid (wr.ownsRow S 9 1 vv k (dw ((ls.map (·.T)).take k)))) (fun iv _=>n-(intOf iv).toNat);case atStart=>exact⟨0,bm _,rfl,HB2,fun _ _ _ e=>e,_,HBX,jb _ _ _ _⟩
 case round=>
  obtain⟨k,hk,rfl,HB,HK,vv,HX,HR⟩:=hrel;by_cases hlt:k<n
  ·have aR:(k:Int)<(n:Int):=by omega
   obtain⟨g,cM,rfl,hg,hc⟩:=HLC.resolve_left (by omega);have cZ:k<ls.length:=by have:=HN.out;omega
   have HSN:Hid (dw ((ls.map (·.T)).take (k+1))=dw ((ls.map (·.T)).take k)++[.string ⟨ls[k].T.toArray⟩]):=by show _=_;rw[ip (by grind),rK,List.getElem_map]
   have HC:=qH<|fun t u hu=>(ba (a:=(aq g (k*5+t))) ((HK g cM _ hg).trans hg.symm)).trans (hc k cZ t u hu);obtain⟨⟨T,V,F,N,E⟩,hx⟩:=af ls[k];rw[hx]at HC HSN;have c0:wr.cell? (aq g (k*5))=some (.string ⟨T.toArray⟩):=HC 0 _ rfl;have c1:wr.cell? (aq g (k*5+1))=some (Iq V):=HC 1 _ rfl;have c2:wr.cell? (aq g (k*5+2))=some (Iq F):=HC 2 _ rfl;have c3:wr.cell? (aq g (k*5+3))=some (Iq N):=HC 3 _ rfl;have c4:wr.cell? (aq g (k*5+4))=some (Iq E):=HC 4 _ rfl;obtain⟨w5,TT⟩:=af (wr.alloc (.cells #[.string ⟨T.toArray⟩,Iq V,Iq F,Iq N,Iq E] 277));have hx5:Boxed w5 (S+1+1) 223 vv:=by rw[<-TT];exact HX.alloc _
   have _u:w5.ownsRow S 9 1 vv k (dw ((ls.map (·.T)).take k)):=by rw[<-TT];exact yo HR _
   have hb5:Below S W w5:=by rw[<-TT];exact HB.alloc (by have:=HX.lt;omega) _
   have Ws:KpL w2 w5:=by rw[<-TT];exact fun j c fz e=>(cG _ _ _ (az.1 (HK j c fz e)).1).trans (HK j c fz e)
   have l0:w5.cell? (aq wr.heap.size 0)=some (.string ⟨T.toArray⟩):=by rw[<-TT,Lib.cell_of_heap (heap_alloc_new _ _)];rfl
   have x5:=hx5.cell;have hz5:S<=w5.heap.size:=by have:=hx5.lt;omega
   have HX5:=qH hx5;have Mo:=qH _u;have Rs:=qH hb5;have HK5:=qH Ws;clear hx HC hc hg HK HB HR HX hx5 _u hb5 Ws;go_wp2_with(at_builtin;refine wpList_append_own _ rfl _ _ 223 rfl S 9 i0 (.string ⟨#[]⟩) 1 16 underlying223 hi dJ fy fB rfl (by decide) _ _ _ rfl (yo Mo _) _ 1 1 [.string ⟨T.toArray⟩] rfl rfl ?c1 ?c2 ?c3 ?c4 ?c5 ?_);(try case c1=>exact qA _ _ _);(try case c2=>first|exact rfl|(intro u hu;simp at hu;subst hu;rfl));case c3=>unfold maxLen;omega
   case c4=>omega
   case c5=>omega
   intro v' w6 bS fd _;obtain⟨g',cH,rfl⟩:=ownsRow_succ bS;obtain⟨fj,my,hr2,_,dE⟩:=HX5.appended (by decide) Mo hz5 (by omega) bS fd;have Ru:Hid (KpL w2 (w6.setCell (aq (S+1+1) 0) (Sq g' (k+1) cH))):=fun j c fz e=>T7 HX5 Mo fd j c fz (HK5 j c fz e);have Mw:=qH my;have HR2:=qH hr2;have Vz:Hid (Below S W (w6.setCell (aq (S+1+1) 0) (Sq g' (k+1) cH))):=Rs.trans dE;have hc1:=fj.cell;have Yq:=fj.frozen;clear fd bS fj my hr2 dE;go_wp2;go_roundw;case rel=>exact⟨k+1,hlt,by go_num,Vz,Ru,_,Mw,by rw[HSN.out];exact HR2⟩
   grind[intOf]
  ·have aR:¬(k:Int)<(n:Int):=by omega
   obtain rfl:k=n:=by omega
   have x0:=HX.cell;have HRN:Hid (wr.ownsRow S 9 1 vv k (dw (ls.map (·.T)))):=by have:=HR.out;rw[im (by grind)]at this;exact this
   go_wp2;go_ret;exact⟨_,rfl,HRN,HB⟩
theorem uX{W:World}{B B'}{e}{size}{v}{n}{xs}(h:W.ownsRow B e size v n xs)(hb:B'<=B):W.ownsRow B' e size v n xs:=by
 refine⟨h.1,?_⟩;rcases h.2 with h|⟨g,cap,cM,h1,h2,h3⟩;·grind
 ·exact .inr ⟨g,cap,cM,h1,aH hb h2,h3⟩
theorem Il{W u}{B}{e}{size}{v}{n}{xs}(h:W.ownsRow B e size v n xs)(hb:Bt W u):u.ownsRow B e size v n xs:=by
 refine⟨h.1,?_⟩;rcases h.2 with h|⟨g,cap,cM,h1,h2,h3,h4⟩;·grind
 ·exact .inr ⟨g,cap,cM,h1,h2,(hb.block g (az.1 h3).1).trans h3,h4⟩
def Bk(w:Int)(p:List UInt8):List UInt8:=wk (one (bi (ap p))) w
theorem Cp(kd a0 a1 a2 a3 a4 a5 a6 a7 a8 a9 b0 b1 up:Int)(tx:ByteArray)(kv:Value)(w:Int)(W:World)(ht:aL W)(hs:tx.size<=100000)(hw:0<=w/\w<=100000)(h8:a8≠1):
 Calls prog 134 #[fO kd a0 a1 a2 a3 a4 a5 a6 a7 a8 a9 b0 b1 tx kv up,Iq w] W fun e W'=>∃v,e=.returned v/\W'.ownsRow W.heap.size 9 1 v (kX tx.data.toList a8 w).length (dw (kX tx.data.toList a8 w))/\Below W.heap.size W W':=by
 have Mv:Hid (kX tx.data.toList a8 w=(du tx.data.toList).map (Bk w)):=if_neg h8;rw[Mv.out];obtain⟨t,OR⟩:=af tx.data.toList;have uy:tx=⟨t.toArray⟩:=by rw[<-OR]
 have OQ:t.length<=100000:=by rw[<-OR,gc];exact hs
 rw[OR];subst uy;clear OR hs Mv;have kU:prog.follows .mixedOrders=true:=by kernel_rfl
 have e8:(a8==1)=false:=by simpa using h8
 obtain⟨i0,hi,dJ,fy,fB⟩:=info_parts Dl;unfold fO;refine(callsIn_wide (n:=6)).1 ?_;refine callsIn_of_wp_marks func134 rfl trivial ?_ rfl;simp only[ntmps134,kQ,cP,fh,Nat.reduceAdd,Nat.reduceSub,rV,rW,rX,rY,pL,ny];gi_wp2_with fail;obtain⟨S,hS⟩:=af W.heap.size;obtain⟨X1,h1⟩:=af (W.alloc (.cells #[Iq kd,Iq a0,Iq a1,Iq a2,Iq a3,Iq a4,Iq a5,Iq a6,Iq a7,Iq a8,Iq a9,Iq b0,Iq b1,.string ⟨t.toArray⟩,kv,Iq up] 94));have s1:X1.heap.size=S+1:=by rw[<-h1,aA,hS]
 obtain⟨X2,h2⟩:=af (X1.alloc (.cells #[Iq w] 3));have s2:X2.heap.size=S+1+1:=by rw[<-h2,aA,s1]
 obtain⟨X3,h3⟩:=af (X2.alloc (.cells #[.slice none 0 0] 223));have s3:X3.heap.size=S+1+1+1:=by rw[<-h3,aA,s2]
 rw[h1,h2,h3];refine⟨trivial,(callsIn_wide.2 (pE ⟨t.toArray⟩ _)).mono ?_⟩;rintro e w' ⟨rfl,rfl⟩;obtain⟨X4,h4⟩:=af (X3.alloc (.cells #[.string ⟨t.toArray⟩] 9));have s4:X4.heap.size=S+1+1+1+1:=by rw[<-h4,aA,s3]
 obtain⟨X5,h5⟩:=af (X4.alloc (.cells #[.string ⟨#[10]⟩] 9));have s5:X5.heap.size=S+1+1+1+1+1:=by rw[<-h5,aA,s4]
 obtain⟨X6,h6⟩:=af (X5.alloc (.cells #[Iq 0] 3));have s6:X6.heap.size=S+1+1+1+1+1+1:=by rw[<-h6,aA,s5]
 have bW:Boxed X6 (S+1) 3 (Iq w):=by
  have q:Boxed X2 (S+1) 3 (Iq w):=by rw[<-h2,<-s1];exact Boxed.new _ _ _
  rw[<-h6,<-h5,<-h4,<-h3];exact(((q.alloc _).alloc _).alloc _).alloc _
 have bL:Boxed X6 (S+1+1) 223 (.slice none 0 0):=by
  have q:Boxed X3 (S+1+1) 223 (.slice none 0 0):=by rw[<-h3,<-s2];exact Boxed.new _ _ _
  rw[<-h6,<-h5,<-h4];exact((q.alloc _).alloc _).alloc _
 have bT:Boxed X6 (S+1+1+1) 9 (.string ⟨t.toArray⟩):=by
  have q:Boxed X4 (S+1+1+1) 9 (.string ⟨t.toArray⟩):=by rw[<-h4,<-s3];exact Boxed.new _ _ _
  rw[<-h6,<-h5];exact(q.alloc _).alloc _
 have bP:Boxed X6 (S+1+1+1+1) 9 (.string ⟨#[10]⟩):=by
  have q:Boxed X5 (S+1+1+1+1) 9 (.string ⟨#[10]⟩):=by rw[<-h5,<-s4];exact Boxed.new _ _ _
  rw[<-h6];exact q.alloc _
 have bV:Boxed X6 (S+1+1+1+1+1) 3 (Iq 0):=by rw[<-h6,<-s5];exact Boxed.new _ _ _
 have oI:Below S W X6:=by rw[<-h6,<-h5,<-h4,<-h3,<-h2,<-h1,<-hS];exact((((((Gr.refl W).alloc _).alloc _).alloc _).alloc _).alloc _).alloc _|>.below
 rw[h4,h5,h6,s3,hS];have ht6:aL X6:=ht.below (by grind);clear h1 h2 h3 h4 h5 h6 s1 s2 s3 s4 s5;gi_wp2;refine nh rfl (by omega) (gf:=244) (lb:=#[Pq (S+1+1+1+1),Pq (S+1+1+1),Pq (S+1+1+1+1+1)]) rfl trivial (enters_of func244 (by kernel_rfl) rfl)
  (pD 5 (by omega) (S+1+1+1+1) (S+1+1+1) (S+1+1+1+1+1) t (by omega) X6 (by omega) (by omega) bP bT bV) (by omega) lf.trans (xJ (by omega) (by omega) (by omega)) (ag _ _) (fun _=>rfl)
  (fun bF W'=>((∃v,Boxed W' (S+1+1) 223 v/\W'.ownsRow X6.heap.size 9 1 v bF.length (dw (bF.map (Bk w)))/\True)/\Boxed W' (S+1) 3 (Iq w))/\Below S W W'/\X6.heap.size<=W'.heap.size)
  (OwnFrom.and (OwnFrom.and (Own.from (holdsRow_own X6.heap.size (S+1+1) 223 9 1 (fun bF:List (List UInt8)=>bF.length) (fun bF=>dw (bF.map (Bk w))) (fun _ _=>True)) _) (Own.from (boxed_own _ _ _) _)) (OwnFrom.and (ownFrom_below (by omega) (by omega)) (fun _ _ _ _ h hg _=>aH h hg.size)))
  (fun bF A B row ⟨⟨⟨v,q1,q2,_⟩,q3⟩,q4,q5⟩ hg hr=>by
   have hro:∀b,b≠S+1+1+1->some b≠row:=fun b hb e=>by grind
   refine⟨⟨⟨v,q1.kept hg (hro _ (by omega)),q2.kept hg ?_,trivial⟩,q3.kept hg (hro _ (by omega))⟩,q4.grown hg (by omega) (fun q hq=>by grind),aH q5 hg.size⟩;rcases q2.2 with⟨rfl,_⟩|⟨g,cap,cM,rfl,Ap,_⟩;·exact .inl rfl
   ·exact .inr (fun e=>hro g (by omega) e))
  ⟨⟨⟨_,bL,jb _ _ _ _,trivial⟩,bW⟩,oI,ae _⟩
  (fun x a' W'=>a'={tmps:=#[.agg #[Iq kd,Iq a0,Iq a1,Iq a2,Iq a3,Iq a4,Iq a5,Iq a6,Iq a7,Iq a8,Iq a9,Iq b0,Iq b1,.string ⟨t.toArray⟩,kv,Iq up],Iq w,Pq S,Pq (S+1),.slice none 0 0,Pq (S+1+1),undef,undef,.string ⟨x.toArray⟩,.pointer (some (aq S 9)),Iq a8,.bool false,undef,undef,undef,undef,undef,undef,undef,undef,undef,undef,undef,undef,undef,undef,undef,undef,.pointer (some (aq S 13)),.string ⟨t.toArray⟩,.func (.func 244) #[] #[Pq (S+1+1+1+1),Pq (S+1+1+1),Pq (S+1+1+1+1+1)],.string ⟨x.toArray⟩,undef,undef,undef,undef,undef,undef,undef],defers:=[]})
  (fun _ _ _ _ _ _ hs _ _=>hs)
  ?assign ?body ?done;case assign=>rintro k0 bF x W' K hI hK;dsimp only[Lx]at hK⊢;gi_wp2;exact hK _ _ (KeepsFrom.refl _ _) ⟨rfl,rfl,rfl⟩ hI rfl
 case body=>
  rintro k0 bF x a' W' ⟨⟨⟨v,hv,hrow,_⟩,b_⟩,hB,hWl⟩ rfl hlt WA;have hc:=hv.cell;have wc:=b_.cell;have hxz:(⟨x.toArray⟩:ByteArray).size=x.length:=by simp[ByteArray.size]
  obtain⟨y,hy⟩:=af (Bk w x);have HV:=qH hv;have vW:=qH hrow;have Xi:=qH b_;have Zw:=qH hB;have CU:Hid (∀u,(u=W'\/u=W'.drew)->Calls prog 178 #[.string ⟨x.toArray⟩,Iq w] u fun e u'=>e=.returned (.string ⟨y.toArray⟩)/\Hid (Below W'.heap.size W' u')):=fun u hu=>by
   have jj:Below W'.heap.size W' u:=by
    rcases hu with rfl|rfl;·exact ag _ _
    ·exact(ag _ _).drew
   refine(SW ⟨x.toArray⟩ w u ((ht.below (w':=W') (by grind)).below jj) (by rw[hxz];omega) (by omega) (by omega)).mono ?_;rintro e u' ⟨rfl,q⟩;exact⟨by rw[<-hy];rfl,jj.trans (q.mono jj.size)⟩
  have om:Hid (∀u v' w6,Below W'.heap.size W' u->w6.ownsRow X6.heap.size 9 1 v' (bF.length+1) (dw (bF.map (Bk w))++[.string ⟨y.toArray⟩])->(u.alloc (.cells #[.string ⟨y.toArray⟩] 9)).grownBy w6 v.ownBlock->(w6.cell? (aq (S+1+1) 0)=some v/\w6.frozen? (aq (S+1+1) 0)=false/\w6.cell? (aq (S+1) 0)=some (Iq w))/\yT X6.heap.size (lf (S+1+1+1+1) (S+1+1+1) (S+1+1+1+1+1)) (fun bF W'=>((∃v,Boxed W' (S+1+1) 223 v/\W'.ownsRow X6.heap.size 9 1 v bF.length (dw (bF.map (Bk w)))/\True)/\Boxed W' (S+1) 3 (Iq w))/\Below S W W'/\X6.heap.size<=W'.heap.size) (bF++[x]) W' .normal {tmps:=#[],defers:=[]} (w6.setCell (aq (S+1+1) 0) v')):=fun u v' w6 hu bS fd=>by
   have hvu:Boxed u (S+1+1) 223 v:=(hu.block _ HV.lt).trans HV;have Eo:u.ownsRow X6.heap.size 9 1 v bF.length (dw (bF.map (Bk w))):=Il vW hu;obtain⟨fj,my,hr2,Wr,dE⟩:=hvu.appended (by decide) (uX Eo (by omega:S<=_)) (by have:=hvu.lt;omega) (by omega) (uX bS (by omega:S<=_)) fd;have Hx:=bS.kept (grownBy_setCell' w6 _ v') (.inr (fj.not_row (by decide) bS).symm);have ON:=fun q hq=>(Eo.lt q hq).1;have key:∀b,b≠S+1+1->b<X6.heap.size->(w6.setCell (aq (S+1+1) 0) v').heap[b]?=W'.heap[b]?:=fun b hb hl=>by rw[bv w6 (aq (S+1+1) 0) v' b hb,fd.block b (by rw[aA];have:=hu.size;omega) (fun e=>by grind),cG _ _ _ (by have:=hu.size;omega)];exact hu.block b (by omega)
   have hwb:Boxed (w6.setCell (aq (S+1+1) 0) v') (S+1) 3 (Iq w):=(key (S+1) (by omega) (by omega)).trans Xi;refine⟨⟨fj.cell,fj.frozen,?_⟩,?_,⟨key _ (by omega) (by omega),key _ (by omega) (by omega),key _ (by omega) (by omega)⟩,⟨⟨v',my,?_,trivial⟩,hwb⟩,Zw.trans ((hu.mono (by omega)).trans dE),?_⟩;·have:=(bv w6 (aq (S+1+1) 0) v' (S+1) (by grind)).symm.trans hwb;exact Boxed.cell this
   ·exact(KeepsOthers.trans ⟨hu.size,fun k o ho _=>(hu.block k (az.1 ho).1).trans ho⟩ Wr).from _
   ·grind[rK]
   ·have h1:=hu.size;have h2:=fd.size;rw[aA]at h2;simp[World.setCell];omega
  clear hv hrow b_ hB;gi_wp2_with fail;refine zR (S:=fun u=>u.cell? (aq (S+1) 0)=some (Iq w)) (by kernel_rfl) (by rintro⟨_,_,q⟩;exact q) kU wc (fun hS0=>?_);refine wpAnyH_take (i:=1) (v:=?v1) rfl (by kernel_rfl) (by kernel_rfl) (by kernel_rfl) (fun _ _ _ h=>h) (Or.inl ⟨by rfl,?hy⟩) (by omega) ?_;case hy=>intro w hSw;(try dsimp only at hSw);go_simp<;>with_reducible rfl
  try simp only[Act.put]
  refine wpAnyH_take (i:=2) (v:=?v2) rfl (by kernel_rfl) (by kernel_rfl) (by kernel_rfl) (fun _ _ _ h=>h) (Or.inl ⟨by rfl,?hy⟩) (by omega) ?_;case hy=>intro w hSw;(try dsimp only at hSw);go_simp<;>with_reducible rfl
  try simp only[Act.put]
  refine wpAnyH_ready (rs:=[0,3]) (by kernel_rfl) (by simp) ?_;refine AllReadyH.cons rfl (fun K' hK=>?_) (AllReadyH.cons rfl (fun K' hK=>?_) AllReadyH.nil);focus go_simp;refine hK.out _ _ wc (fun _=>?_);clear hK K';refine wpAnyH_ready (rs:=[3]) (by kernel_rfl) (by simp) ?_;refine AllReadyH.cons rfl (fun K' hK=>?_) AllReadyH.nil;go_simp;go_wp2_with(go_at_call 178;refine ai (CU _ (by grind)) ?_;rintro e u ⟨rfl,HU⟩);have wu:=(HU.cell (p:=(aq (S+1) 0)) Xi.lt).trans Xi.cell;have lu:=(HU.cell (p:=(aq (S+1+1) 0)) HV.lt).trans HV.cell;refine hK.out _ _ wu (fun _=>?_);clear hK K';refine wpAnyH_ready (rs:=[4]) (by kernel_rfl) (by simp) ?_;refine AllReadyH.cons rfl (fun K' hK=>?_) AllReadyH.nil;go_simp;have wb:(u.alloc (.cells #[.string ⟨y.toArray⟩] 9)).cell? (aq (S+1) 0)=some (Iq w):=(World.cell?_alloc_some u _ _ (by grind)).trans wu;have lb:(u.alloc (.cells #[.string ⟨y.toArray⟩] 9)).cell? (aq (S+1+1) 0)=some v:=(World.cell?_alloc_some u _ _ (by grind)).trans lu;refine hK.out _ _ wb (fun _=>?_);clear hK K'
  rotate_left;focus
   go_simp;go_wp2_with(go_at_call 178;refine ai (CU _ (by grind)) ?_;rintro e u ⟨rfl,HU⟩);have wu:=(HU.cell (p:=(aq (S+1) 0)) Xi.lt).trans Xi.cell;have lu:=(HU.cell (p:=(aq (S+1+1) 0)) HV.lt).trans HV.cell;refine hK.out _ _ wu (fun _=>?_);clear hK K';refine wpAnyH_ready (rs:=[0,4]) (by kernel_rfl) (by simp) ?_;refine AllReadyH.cons rfl (fun K' hK=>?_) (AllReadyH.cons rfl (fun K' hK=>?_) AllReadyH.nil);focus go_simp;refine hK.out _ _ wu (fun _=>?_);clear hK K';refine wpAnyH_ready (rs:=[4]) (by kernel_rfl) (by simp) ?_;refine AllReadyH.cons rfl (fun K' hK=>?_) AllReadyH.nil;go_simp;have wb:(u.alloc (.cells #[.string ⟨y.toArray⟩] 9)).cell? (aq (S+1) 0)=some (Iq w):=(World.cell?_alloc_some u _ _ (by grind)).trans wu;have lb:(u.alloc (.cells #[.string ⟨y.toArray⟩] 9)).cell? (aq (S+1+1) 0)=some v:=(World.cell?_alloc_some u _ _ (by grind)).trans lu;refine hK.out _ _ wb (fun _=>?_);clear hK K'
   rotate_left;focus go_simp;have wb:(u.alloc (.cells #[.string ⟨y.toArray⟩] 9)).cell? (aq (S+1) 0)=some (Iq w):=(World.cell?_alloc_some u _ _ (by grind)).trans wu;have lb:(u.alloc (.cells #[.string ⟨y.toArray⟩] 9)).cell? (aq (S+1+1) 0)=some v:=(World.cell?_alloc_some u _ _ (by grind)).trans lu;refine hK.out _ _ wb (fun _=>?_);clear hK K';refine wpAnyH_ready (rs:=[0]) (by kernel_rfl) (by simp) ?_;refine AllReadyH.cons rfl (fun K' hK=>?_) AllReadyH.nil;go_simp;refine hK.out _ _ wb (fun _=>?_);clear hK K'
  all_goals refine wpAnyH_ready (rs:=[5]) (by kernel_rfl) (by simp) ?_;refine AllReadyH.cons rfl (fun K' hK=>?_) AllReadyH.nil;refine sH rfl (.tmp 32) (.tmp 36) 223 rfl X6.heap.size 9 i0 (.string ⟨#[]⟩) 1 16 underlying223 hi dJ fy fB rfl (by decide) v bF.length (dw (bF.map (Bk w))) (by simp[Act.eval]) (yo (Il vW HU) _) _ 1 1 [.string ⟨y.toArray⟩] (by simp[Act.eval]) rfl (qA _ _ _) (by intro u hu;simp at hu;subst hu;rfl) (by unfold maxLen;omega) (by omega) (by rw[aA];have:=HU.size;omega) ?_;intro v' w6 bS fd;obtain⟨g',cH,rfl⟩:=ownsRow_succ bS;obtain⟨⟨f1,f2,f3⟩,f4⟩:=om u _ w6 HU bS fd;refine hK.out _ _ f3 (fun _=>?_);clear hK K';refine wpAnyH_ready (rs:=[6]) (by kernel_rfl) (by simp) ?_;refine AllReadyH.cons rfl (fun K' hK=>?_) AllReadyH.nil;go_simp;refine hK.out _ _ ((World.cell?_setCell_far _ _ _ _ (by grind)).trans f3) (fun _=>?_);clear hK K';refine wpAnyH_done (by kernel_rfl) ?_ _;exact f4
 case done=>rintro D ys W' hD rfl ⟨⟨⟨v,hv,hrow,_⟩,b_⟩,hB,_⟩ hK;have hc:=hv.cell;gi_wp2;refine⟨by simp,.inl ⟨_,_,rfl,run_takeDeferred hK,?_⟩⟩;refine⟨_,results_tmp rfl _ _ _,v,rfl,?_,by rw[hS];exact hB.trans (belowK_b (w:=W) (by omega) W' D _ _ (by omega) hK rfl rfl)⟩;rw[hS,rU];exact ownsRow_putObj (uX hrow (by omega)) _ hK rfl
end
theorem Fq  l   a n  :(aK ((l.drop a).take n)).length<=(aK l).length:=by
 have h1:aK l=aK (l.take a)++aK (l.drop a):=by rw[<-uI,gy]
 have h2:aK (l.drop a)=aK ((l.drop a).take n)++aK ((l.drop a).drop n):=by rw[<-uI,gy]
 rw[h1,h2,aI,aI];omega
theorem Fx  l   w   B  (hj:(aK l).length<=B) (hw:w.toNat<=B):∀  f a,∀x∈kz f l w a,x.T.length<=B:=by
 have key:∀a,(fN l w a).T.length<=B:=fun a=>by
  have:=Fq l a (aS (l.drop a) w).n;unfold fN;dsimp only;split;·simpa using hw
  ·dsimp only;omega
 intro f;induction f with
 |zero=>intro a x hx;cases hx
 |succ f ih=>
  intro a x hx;simp only[kz]at hx;split at hx;·rw[pI.1 hx];exact key a
  ·rcases ja.1 hx with rfl|hx;·exact key a
   ·exact ih _ x hx
theorem FJ  l  :(aK (one l)).length=(aK l).length:=by
 induction l with
 |nil=>rfl
 |cons c l ih=>grind[aK,one,ro]
theorem Dd:∀  t,∀p∈du t,p.length<=t.length
 |[],p,hp=>by grind[du]
 |b::t,p,hp=>by have ih:=Dd t;grind[du]
theorem QG  t   wrap w  (ht:t.length<=100000) (hw:w<=100000):∀s∈kX t wrap w,s.length<=3000000:=by
 intro s hs;unfold kX at hs;split at hs
 ·obtain⟨x,hx,rfl⟩:=lZ.1 hs;have hj:=m9 t;unfold bG at hx;split at hx;·cases hx
  ·exact Fx _ w 3000000 (by omega) (by omega) _ _ x hx
 ·obtain⟨p,hp,rfl⟩:=lZ.1 hs;have hl:=Dd t p hp;grind[m9,FJ,bi,ap,wk,iP,one,dI]
theorem MZ  T   c W how  :(vX T c W how).length<=T.length+100000+c.natAbs:=by grind[vX,MY]
section
variable(W H:Nat) (f g bd cx cy ca cb:Int)
def Gm(x w al:Int):List (List UInt8)->Int->(Nat->Nat->Ce)->Nat->Nat->Ce
 |[],_,c=>c
 |s::r,y,c=>Gm x w al r (y+1) (wrL W H f g bd cx cy ca cb x y (vX s (aj (bi (ap s))) w al) c)
theorem DT  x w al  :∀  l   s   y   c,Gm W H f g bd cx cy ca cb x w al (l++[s]) y c=wrL W H f g bd cx cy ca cb x (y+l.length) (vX s (aj (bi (ap s))) w al) (Gm W H f g bd cx cy ca cb x w al l y c)
 |[],s,y,c=>by show wrL W H f g bd cx cy ca cb x y _ _=wrL W H f g bd cx cy ca cb x (y+0) _ _;rw[Int.add_zero];rfl
 |p::l,s,y,c=>by show Gm W H f g bd cx cy ca cb x w al (l++[s]) (y+1) _=_;rw[DT x w al l s,show(y+((p::l).length:Int))=y+1+l.length by simp;omega];rfl
theorem vA{P:(Nat->Nat->Ce)->Prop}  x w al  :∀  l   y   c,(∀y s c,P c->P (wrL W H f g bd cx cy ca cb x y s c))->P c->P (Gm W H f g bd cx cy ca cb x w al l y c)
 |[],_,_,_,h=>h
 |s::r,y,c,hs,h=>vA x w al r _ _ hs (hs _ _ _ h)
end
theorem Co  kd a0 a1 a2 a3 a4 a5 a6 a7 a8 a9 b0 b1 up   tx   kv   w   W  (ht:aL W) (hs:tx.size<=100000) (hw:0<=w/\w<=100000):
 Cw 134 #[fO kd a0 a1 a2 a3 a4 a5 a6 a7 a8 a9 b0 b1 tx kv up,Iq w] W fun e W'=>∃v,e=Rw v/\W'.ownsRow W.heap.size 9 1 v (kX tx.data.toList a8 w).length (dw (kX tx.data.toList a8 w))/\Bt W W':=by
 by_cases h8:a8=1;·subst h8;exact zF kd a0 a1 a2 a3 a4 a5 a6 a7 a9 b0 b1 up tx kv w W ht hs hw
 ·exact Cp kd a0 a1 a2 a3 a4 a5 a6 a7 a8 a9 b0 b1 up tx kv w W ht hs hw h8
theorem Vg{W:World}{B}{v}{ls}(h:W.ownsRow B 9 1 v ls.length (dw ls)):∃p c,v=.slice p ls.length c/\ls.length<=c/\(ls.length=0\/∃g,p=some (aq g 0)/\B<=g/\g<W.heap.size/\∀k (hk:k<ls.length),W.cell? (aq g k)=some (.string ⟨ls[k].toArray⟩)):=by
 rcases h.2 with⟨rfl,hz⟩|⟨g,cap,cM,rfl,hb,hg,hc,_⟩;·exact⟨none,0,by rw[hz],by omega,.inl hz⟩
 ·refine⟨some (aq g 0),cap,rfl,hc,.inr ⟨g,rfl,hb,(az.1 hg).1,fun k hk=>?_⟩⟩;have a0:=h.cells (g:=g) rfl k (.string ⟨ls[k].toArray⟩) (by grind[dw]);have e0:((aq g 0):Addr).add k=(aq g k):=by unfold Addr.add;split<;>simp_all
  grind
section
variable{K M cap W H:Nat} {c:Nat->Nat->Ce}
theorem wR(U0 w0:World)(h:CS 84 47 w0 K M cap W H c)(hW:1<=W/\W<=400)(hH:1<=H/\H<=400)(hp:PAll W H c)(ht:aL U0)(hU:Bt U0 w0)(hM:U0.heap.size<=M)(f g bd cx cy ca cb:Int)(kd a0 a1 a2 a3 a4 a5 a6 a7 a8 a9 b0 b1 up:Int)(tx:ByteArray)(kv:Value)(x y w hh:Int)(hs:tx.size<=100000)
 (hx:-100000000000<=x/\x<=100000000000) (hy:-100000000000<=y/\y<=100000000000) (hw:0<=w/\w<=100000) (RT:0<=hh/\hh<=100000) (Wm:-1000000000000<=cy/\cy<=1000000000000) (BR:-1000000000000<=cb/\cb<=1000000000000):
 Cw 74 #[LV K f g bd cx cy ca cb,fO kd a0 a1 a2 a3 a4 a5 a6 a7 a8 a9 b0 b1 tx kv up,rv x y w hh] w0 fun e w'=>e=Rw (.tuple #[])/\Cv 47 w' M W H (Gm W H f g bd cx cy ca cb x w a7 ((kX tx.data.toList a8 w).take hh.toNat) y c)/\bK M w0 w':=by
 have kU:prog.follows .mixedOrders=true:=by kernel_rfl
 have vQ:=h.cv.lt;obtain⟨A,hA⟩:=af w0.heap.size;obtain⟨W3,ld⟩:=af (((w0.alloc (.cells #[Pq K,Iq f,Iq g,Iq bd,Iq cx,Iq cy,Iq ca,Iq cb] 117)).alloc (.cells #[Iq kd,Iq a0,Iq a1,Iq a2,Iq a3,Iq a4,Iq a5,Iq a6,Iq a7,Iq a8,Iq a9,Iq b0,Iq b1,.string tx,kv,Iq up] 94)).alloc (.cells #[Iq x,Iq y,Iq w,Iq hh] 100));have fm:Hid (Bt w0 W3):=by rw[<-ld];exact((((Gr.refl w0).alloc _).alloc _).alloc _).below
 have xF:W3.heap[A]?=some (.cells #[Pq K,Iq f,Iq g,Iq bd,Iq cx,Iq cy,Iq ca,Iq cb] 117 (0,0)):=by rw[<-ld,<-hA,cG _ _ _ (by rw[aA,aA];omega),cG _ _ _ (by simp_all)];exact heap_alloc_new _ _
 have hn3:W3.heap[A+1]?=some (.cells #[Iq kd,Iq a0,Iq a1,Iq a2,Iq a3,Iq a4,Iq a5,Iq a6,Iq a7,Iq a8,Iq a9,Iq b0,Iq b1,.string tx,kv,Iq up] 94 (0,0)):=by rw[<-ld,<-hA,cG _ _ _ (by simp_all),<-World.size_alloc];exact heap_alloc_new _ _
 have Hx:W3.heap[A+1+1]?=some (.cells #[Iq x,Iq y,Iq w,Iq hh] 100 (0,0)):=by rw[<-ld,<-hA,<-World.size_alloc,<-World.size_alloc];exact heap_alloc_new _ _
 have VO:=qH<|(az.1 Hx).1;have Rv:Hid (M<A):=by rw[<-hA];exact vQ
 have HS:Hid (∀u,bK M W3 u->u.cell? (aq A 0)=some (Pq K)/\u.cell? (aq A 1)=some (Iq f)/\u.cell? (aq A 2)=some (Iq g)/\u.cell? (aq A 3)=some (Iq bd)/\u.cell? (aq A 4)=some (Iq cx)/\u.cell? (aq A 5)=some (Iq cy)/\u.cell? (aq A 6)=some (Iq ca)/\u.cell? (aq A 7)=some (Iq cb)/\u.cell? (aq (A+1+1) 0)=some (Iq x)/\u.cell? (aq (A+1+1) 1)=some (Iq y)/\u.cell? (aq (A+1+1) 2)=some (Iq w)/\u.cell? (aq (A+1+1) 3)=some (Iq hh)/\u.cell? (aq (A+1) 8)=some (Iq a7)):=fun u hu=>by
  have e1:=(hu.block A (by grind) (by omega)).trans xF;have e2:=(hu.block (A+1) (by grind) (by omega)).trans hn3;have e3:=(hu.block (A+1+1) VO (by omega)).trans Hx;refine⟨?_,?_,?_,?_,?_,?_,?_,?_,?_,?_,?_,?_,?_⟩;all_goals first
   |(rw[Lib.cell_of_heap e1];rfl)
   |(rw[Lib.cell_of_heap e2];rfl)
   |(rw[Lib.cell_of_heap e3];rfl)
 have HN:Hid (∀(k:Nat) v,(#[Iq kd,Iq a0,Iq a1,Iq a2,Iq a3,Iq a4,Iq a5,Iq a6,Iq a7,Iq a8,Iq a9,Iq b0,Iq b1,.string tx,kv,Iq up]:Array Value)[k]?=some v->W3.cell? (aq (A+1) k)=some v):=fun k v hv=>by rw[Lib.cell_of_heap hn3];exact hv
 obtain⟨z0,z1,z2,z3,z4,z5,z6,z7,r0,r1,r2,r3,_⟩:=HS W3 (bK.refl _ _);have n0:W3.cell? (aq (A+1) 0)=some (Iq kd):=HN 0 _ rfl;have n1:=HN 1 _ rfl;have n2:=HN 2 _ rfl;have n3:=HN 3 _ rfl;have n4:=HN 4 _ rfl;have n5:=HN 5 _ rfl;have n6:=HN 6 _ rfl;have n7:=HN 7 _ rfl;have n8:=HN 8 _ rfl;have n9:=HN 9 _ rfl;have Y4:=HN 10 _ rfl;have Y5:=HN 11 _ rfl;have Y6:=HN 12 _ rfl;have Ut:=HN 13 _ rfl;have Y7:=HN 14 _ rfl;have Y8:=HN 15 _ rfl;have Om:=hU.trans (fm.mono hU.size);have HU3:=qH Om;have HT:=qH ht;have HCS:=qH h;have HP:=qH hp;have LO:Hid (Cw 134 #[fO kd a0 a1 a2 a3 a4 a5 a6 a7 a8 a9 b0 b1 tx kv up,Iq w] W3 fun e W'=>∃v,e=Rw v/\Hid (W'.ownsRow W3.heap.size 9 1 v (kX tx.data.toList a8 w).length (dw (kX tx.data.toList a8 w)))/\Bt W3 W'):=Co kd a0 a1 a2 a3 a4 a5 a6 a7 a8 a9 b0 b1 up tx kv w W3 (ht.below Om) hs hw;have VJ:Hid (∀s∈kX tx.data.toList a8 w,s.length<=3000000):=QG _ _ _ (by rw[gc];exact hs) hw.2;obtain⟨ls,_i⟩:=af (kX tx.data.toList a8 w);rw[_i]at LO VJ⊢;obtain⟨m,hm⟩:=af (min ls.length hh.toNat);have hmI:min (ls.length:Int) hh=(m:Int):=by omega
 have rj:m<=ls.length:=by omega
 have HTK:Hid (ls.take hh.toNat=ls.take m):=by show _=_;rw[<-hm,List.take_eq_take_iff];omega
 rw[HTK.out];clear _i hm ht hU Om h hp xF hn3 Hx;unfold LV rv;unfold fO at LO⊢;go_enter func74,ntmps74;go_wp2_with fail;clear ld hA;refine LO.mono ?_;rintro e w2 ⟨v,rfl,HL,b2⟩;obtain⟨p,cp,rfl,Tu,_h⟩:=Vg HL.out;have HLC:=qH _h;have HC2:Hid (bK M W3 w2):=bK.below b2;obtain⟨y0,y1,y2,y3,y4,y5,y6,y7,q0,q1,q2,q3,q4⟩:=HS w2 HC2;have Mw:=qH<|HCS.cv.keep ((b2.block M (by have:=Rv.out;have:=VO.out;omega)).trans (fm.block M vQ));clear LO HL _h b2 z0 z1 z2 z3 z4 z5 z6 z7 r0 r1 r2 r3 n0 n1 n2 n3 n4 n5 n6 n7 n8 n9 Y4 Y5 Y6 Ut Y7 Y8 HN;have hm2:m<=cp:=by omega
 go_wp2;go_loopw[21] (fun iv wr=>∃k:Nat,k<=m/\iv=Iq k/\Hid (Cv 47 wr M W H (Gm W H f g bd cx cy ca cb x w a7 (ls.take k) y c))/\Hid (bK M w2 wr)) (fun iv _=>m-(intOf iv).toNat);case atStart=>exact⟨0,bm _,rfl,Mw,bK.refl _ _⟩
 case round=>
  obtain⟨k,hk,rfl,HV,HC⟩:=hrel;by_cases hlt:k<m
  ·have aR:(k:Int)<(m:Int):=by omega
   obtain⟨gb,rfl,Ap,lz,hg⟩:=HLC.resolve_left (by omega);have cZ:k<ls.length:=by omega
   obtain⟨s,hse⟩:=af ls[k];have pR:s.length<=3000000:=by rw[<-hse];exact VJ _ (rT cZ)
   obtain⟨al,zq⟩:=af (vX s (aj (bi (ap s))) w a7);have _C:=dp _ (gB (ap s)) (bi (ap s)).length;rw[l6]at _C;have hcl:=cu (ap s);have oj:=bp s;have fU:al.length<=100000000:=by rw[<-zq];have:=MZ s (aj (bi (ap s))) w a7;omega
   have c0:wr.cell? (aq gb k)=some (.string ⟨s.toArray⟩):=by rw[<-hse];exact(ba (a:=(aq gb k)) (HC.block gb lz (by have:=Rv.out;have:=VO.out;omega))).trans (hg k cZ)
   have HNX:Hid (Gm W H f g bd cx cy ca cb x w a7 (ls.take (k+1)) y c=wrL W H f g bd cx cy ca cb x (y+k) al (Gm W H f g bd cx cy ca cb x w a7 (ls.take k) y c)):=by show _=_;rw[ip cZ,DT,hse,zq,bU,Rl (by omega)]
   have Xv:Hid (∀u,bK M W3 u->aL u):=fun u hu=>HT.below (hu.low hM (aH HU3.size (ae _)) HU3);have nD:Hid (s.toArray.size=s.length/\al.toArray.size=al.length):=⟨by simp,by simp⟩;have AL:Hid (∀u,(u=wr\/u=wr.drew)->Cw 135 #[.string ⟨s.toArray⟩,Iq w,Iq a7] u fun e u'=>e=Rw (.string ⟨al.toArray⟩)/\Hid (Bt wr u')):=fun u hu=>by
    have jj:Bt wr u:=by
     rcases hu with rfl|rfl;·exact ag _ _
     ·exact(ag _ _).drew
    refine(JC ⟨s.toArray⟩ w a7 u (Xv u ((HC2.trans HC).trans (bK.below jj))) (by show s.toArray.size<=_;rw[nD.1];omega) (by omega) (by omega)).mono ?_;rintro e u' ⟨rfl,q⟩;exact⟨by rw[<-zq],jj.trans (q.mono jj.size)⟩
   have WR:Hid (∀u,Bt wr u->Cw 133 #[.agg #[Pq K,Iq f,Iq g,Iq bd,Iq cx,Iq cy,Iq ca,Iq cb],Iq x,Iq (y+k),.string ⟨al.toArray⟩] u fun e u'=>e=Rw (.tuple #[])/\Hid (Cv 47 u' M W H (Gm W H f g bd cx cy ca cb x w a7 (ls.take (k+1)) y c))/\Hid (bK M w2 u')):=fun u hu=>by have hwu:bK M w2 u:=HC.trans (bK.below hu);have _f:=((HC2.trans hwu).block K (zz007 HCS.klt fm.size) HCS.ne).trans (fm.block K HCS.klt);have iD:CS 84 47 u K M cap W H (Gm W H f g bd cx cy ca cb x w a7 (ls.take k) y c):=⟨_f.trans HCS.kb,HV.keep (hu.block M HV.lt),HCS.ne,HCS.hc⟩;have L9:PAll W H (Gm W H f g bd cx cy ca cb x w a7 (ls.take k) y c):=vA W H f g bd cx cy ca cb (P:=PAll W H) x w a7 _ y c (fun y s c hc=>hc.wrL hW hH _ _ _ _ _ _ _ _ _ _) HP;refine(ye u iD hW hH L9 (Xv u (HC2.trans hwu)) x (y+k) f g bd cx cy ca cb ⟨al.toArray⟩ (by show al.toArray.size<=_;rw[nD.2];omega) (by omega) Wm BR).mono ?_;rintro e u' ⟨rfl,q1,q2⟩;exact⟨rfl,by rw[HNX.out];exact q1,hwu.trans q2⟩
   obtain⟨x0,x1,x2,x3,x4,x5,x6,x7,t0,t1,t2,t3,t4⟩:=HS wr (HC2.trans HC);have hwy:IntKind.i64.wrap (y+(k:Int))=y+k:=IntWalk.i64_in _ (by omega);clear hg hse zq HNX HV Xv y0 y1 y2 y3 y4 y5 y6 y7 q0 q1 q2 q3 q4;go_wp2_with fail;go_region_held(fun W_=>W_.cell? (aq A 0)=some (Pq K)/\W_.cell? (aq A 1)=some (Iq f)/\W_.cell? (aq A 2)=some (Iq g)/\W_.cell? (aq A 3)=some (Iq bd)/\W_.cell? (aq A 4)=some (Iq cx)/\W_.cell? (aq A 5)=some (Iq cy)/\W_.cell? (aq A 6)=some (Iq ca)/\W_.cell? (aq A 7)=some (Iq cb)/\W_.cell? (aq (A+1+1) 0)=some (Iq x)/\W_.cell? (aq (A+1+1) 1)=some (Iq y)/\W_.cell? (aq (A+1+1) 2)=some (Iq w)/\W_.cell? (aq (A+1+1) 3)=some (Iq hh)/\W_.cell? (aq (A+1) 8)=some (Iq a7)) (go_keep) (first
    |(go_at_call 135;refine ai (AL _ (by first|exact .inl rfl|exact .inr rfl)) ?_;rintro e u1 ⟨rfl,HU1⟩;obtain⟨d0,d1,d2,d3,d4,d5,d6,d7,e0,e1,e2,e3,e4⟩:=HS u1 ((HC2.trans HC).trans (bK.below HU1)))
    |(go_at_call 133;refine ai (WR _ HU1) ?_;rintro e u2 ⟨rfl,HV5,AJ⟩;obtain⟨i0,i1,i2,i3,i4,i5,i6,i7,j0,j1,j2,j3,j4⟩:=HS u2 (HC2.trans AJ)));all_goals
    go_wp2;go_roundw;case rel=>exact⟨k+1,hlt,by go_num,HV5,AJ⟩
    case measure=>simp[intOf];omega
  ·have aR:¬(k:Int)<(m:Int):=by omega
   obtain rfl:k=m:=by omega
   go_wp2;go_end0;exact⟨rfl,HV,(bK.below fm).trans (HC2.trans HC)⟩
end
def Ir(W H:Nat)(f g bd cx cy ca cb kd a6 a7 a8 b0:Int)(t:List UInt8)(x y w hh:Int)(c:Nat->Nat->Ce):Nat->Nat->Ce:=
 if kd=3/\a6=1/\2<=w/\2<=hh then ZR W H f g bd cx cy ca cb x y w hh (if 0<b0 then kq W H c x y w hh f g bd cx cy ca cb else c)
 else if kd=5/\1<=w then Gm W H f g bd cx cy ca cb x w a7 ((kX t a8 w).take hh.toNat) y (if 0<b0 then kq W H c x y w hh f g bd cx cy ca cb else c)
 else if 0<b0 then kq W H c x y w hh f g bd cx cy ca cb else c
theorem Qa{W H}{P:(Nat->Nat->Ce)->Prop}{f g bd cx cy ca cb kd a6 a7 a8 b0}{t}{x y w hh}{c}(hf:∀c,P c->P (kq W H c x y w hh f g bd cx cy ca cb))(hs:∀x y s c,P c->P (wrL W H f g bd cx cy ca cb x y s c))(h:P c):P (Ir W H f g bd cx cy ca cb kd a6 a7 a8 b0 t x y w hh c):=by
 have h1:P (if 0<b0 then kq W H c x y w hh f g bd cx cy ca cb else c):=by
  split;·grind
  ·exact h
 unfold Ir;split;·simp_all[Np]
 ·split;all_goals simp_all[vA]
section
variable{K M cap W H:Nat} {c:Nat->Nat->Ce}
theorem S6  w  (h:CS 84 47 w K M cap W H c) (hW:1<=W/\W<=400) (hH:1<=H/\H<=400) (hp:PAll W H c)  x y a b f g bd cx cy ca cb  :
 Cw 72 #[Pq K,rv x y a b,sv f g bd,rv cx cy ca cb] w fun e w'=>e=Rw (.tuple #[])/\Cv 47 w' M W H (kq W H c x y a b f g bd cx cy ca cb)/\bK M w w':=
 pZ w h hW hH hp x y a b f g bd cx cy ca cb (dx W H x y a b cx cy ca cb).1 (dx W H x y a b cx cy ca cb).2.1 (dx W H x y a b cx cy ca cb).2.2.1 (dx W H x y a b cx cy ca cb).2.2.2 rfl
theorem K9(U0 w0:World)(h:CS 84 47 w0 K M cap W H c)(hW:1<=W/\W<=400)(hH:1<=H/\H<=400)(hp:PAll W H c)(ht:aL U0)(hU:Bt U0 w0)(hM:U0.heap.size<=M)(f g bd cx cy ca cb:Int)(kd a0 a1 a2 a3 a4 a5 a6 a7 a8 a9 b0 b1 up:Int)(tx:ByteArray)(kv:Value)(x y w hh:Int)(hs:tx.size<=100000)
 (hx:-100000000000<=x/\x<=100000000000) (hy:-100000000000<=y/\y<=100000000000) (hw:0<=w/\w<=100000) (RT:0<=hh/\hh<=100000) (Wm:-1000000000000<=cy/\cy<=1000000000000) (BR:-1000000000000<=cb/\cb<=1000000000000):
 Cw 46 #[LV K f g bd cx cy ca cb,fO kd a0 a1 a2 a3 a4 a5 a6 a7 a8 a9 b0 b1 tx kv up,rv x y w hh] w0 fun e w'=>e=Rw (.tuple #[])/\Cv 47 w' M W H (Ir W H f g bd cx cy ca cb kd a6 a7 a8 b0 tx.data.toList x y w hh c)/\bK M w0 w':=by
 have vQ:=h.cv.lt;obtain⟨A,hA⟩:=af w0.heap.size;obtain⟨W3,ld⟩:=af (((w0.alloc (.cells #[Pq K,Iq f,Iq g,Iq bd,Iq cx,Iq cy,Iq ca,Iq cb] 117)).alloc (.cells #[Iq kd,Iq a0,Iq a1,Iq a2,Iq a3,Iq a4,Iq a5,Iq a6,Iq a7,Iq a8,Iq a9,Iq b0,Iq b1,.string tx,kv,Iq up] 94)).alloc (.cells #[Iq x,Iq y,Iq w,Iq hh] 100));have fm:Hid (Bt w0 W3):=by rw[<-ld];exact((((Gr.refl w0).alloc _).alloc _).alloc _).below
 have xF:W3.heap[A]?=some (.cells #[Pq K,Iq f,Iq g,Iq bd,Iq cx,Iq cy,Iq ca,Iq cb] 117 (0,0)):=by rw[<-ld,<-hA,cG _ _ _ (by rw[aA,aA];omega),cG _ _ _ (by simp_all)];exact heap_alloc_new _ _
 have hn3:W3.heap[A+1]?=some (.cells #[Iq kd,Iq a0,Iq a1,Iq a2,Iq a3,Iq a4,Iq a5,Iq a6,Iq a7,Iq a8,Iq a9,Iq b0,Iq b1,.string tx,kv,Iq up] 94 (0,0)):=by rw[<-ld,<-hA,cG _ _ _ (by simp_all),<-World.size_alloc];exact heap_alloc_new _ _
 have Hx:W3.heap[A+1+1]?=some (.cells #[Iq x,Iq y,Iq w,Iq hh] 100 (0,0)):=by rw[<-ld,<-hA,<-World.size_alloc,<-World.size_alloc];exact heap_alloc_new _ _
 have VO:Hid (A+1+1<W3.heap.size):=(az.1 Hx).1;have Rv:Hid (M<A):=by rw[<-hA];exact vQ
 have HS:Hid (∀u,bK M W3 u->(u.cell? (aq A 0)=some (Pq K)/\u.cell? (aq A 1)=some (Iq f)/\u.cell? (aq A 2)=some (Iq g)/\u.cell? (aq A 3)=some (Iq bd)/\u.cell? (aq A 4)=some (Iq cx)/\u.cell? (aq A 5)=some (Iq cy)/\u.cell? (aq A 6)=some (Iq ca)/\u.cell? (aq A 7)=some (Iq cb))/\(u.cell? (aq (A+1) 0)=some (Iq kd)/\u.cell? (aq (A+1) 1)=some (Iq a0)/\u.cell? (aq (A+1) 2)=some (Iq a1)/\u.cell? (aq (A+1) 3)=some (Iq a2)/\u.cell? (aq (A+1) 4)=some (Iq a3)/\u.cell? (aq (A+1) 5)=some (Iq a4)/\u.cell? (aq (A+1) 6)=some (Iq a5)/\u.cell? (aq (A+1) 7)=some (Iq a6)/\u.cell? (aq (A+1) 8)=some (Iq a7)/\u.cell? (aq (A+1) 9)=some (Iq a8)/\u.cell? (aq (A+1) 10)=some (Iq a9)/\u.cell? (aq (A+1) 11)=some (Iq b0)/\u.cell? (aq (A+1) 12)=some (Iq b1)/\u.cell? (aq (A+1) 13)=some (.string tx)/\u.cell? (aq (A+1) 14)=some (kv)/\u.cell? (aq (A+1) 15)=some (Iq up))/\u.cell? (aq (A+1+1) 0)=some (Iq x)/\u.cell? (aq (A+1+1) 1)=some (Iq y)/\u.cell? (aq (A+1+1) 2)=some (Iq w)/\u.cell? (aq (A+1+1) 3)=some (Iq hh)):=fun u hu=>by
  have e1:=(hu.block A (by grind) (by omega)).trans xF;have e2:=(hu.block (A+1) (by grind) (by omega)).trans hn3;have e3:=(hu.block (A+1+1) VO (by omega)).trans Hx;refine⟨⟨?_,?_,?_,?_,?_,?_,?_,?_⟩,⟨?_,?_,?_,?_,?_,?_,?_,?_,?_,?_,?_,?_,?_,?_,?_,?_⟩,?_,?_,?_,?_⟩;all_goals first
   |(rw[Lib.cell_of_heap e1];rfl)
   |(rw[Lib.cell_of_heap e2];rfl)
   |(rw[Lib.cell_of_heap e3];rfl)
 obtain⟨⟨z0,z1,z2,z3,z4,z5,z6,z7⟩,⟨n0,n1,n2,n3,n4,n5,n6,n7,n8,n9,Y4,Y5,Y6,Ut,Y7,Y8⟩,r0,r1,r2,r3⟩:=HS W3 (bK.refl _ _);have Om:=hU.trans (fm.mono hU.size);have HUU:Hid (∀u,bK M W3 u->Bt U0 u):=fun u hu=>hu.low hM Om.size Om;have HCS:Hid (∀c1 u,bK M W3 u->Cv 47 u M W H c1->CS 84 47 u K M cap W H c1):=fun c1 u hu hv=>⟨((hu.block K (zz007 h.klt fm.size) h.ne).trans (fm.block K h.klt)).trans h.kb,hv,h.ne,h.hc⟩;have GH:Hid (Cv 47 W3 M W H c):=h.cv.keep (fm.block M vQ);obtain⟨c1,hc1⟩:=af (if 0<b0 then kq W H c x y w hh f g bd cx cy ca cb else c);have tn:Hid (PAll W H c1):=by
  rw[<-hc1];show PAll W H (if 0<b0 then _ else c);split;·exact hp.filX hW hH _ _ _ _ _ _ _ _ _ _ _
  ·exact hp
 have PBc:Hid (2<=w->2<=hh->∀u,bK M W3 u->Cv 47 u M W H c1->Cw 73 #[LV K f g bd cx cy ca cb,rv x y w hh] u fun e u'=>e=Rw (.tuple #[])/\Hid (Cv 47 u' M W H (ZR W H f g bd cx cy ca cb x y w hh c1))/\Hid (bK M W3 u')):=fun q1 q2 u hu hv=>(sy U0 u (HCS c1 u hu hv) hW hH tn ht (HUU u hu) hM f g bd cx cy ca cb x y w hh hx hy (by omega) (by omega) Wm BR).mono fun e u' ⟨h1,h2,h3⟩=>⟨h1,h2,hu.trans h3⟩;have PTc:Hid (∀u,bK M W3 u->Cv 47 u M W H c1->Cw 74 #[LV K f g bd cx cy ca cb,fO kd a0 a1 a2 a3 a4 a5 a6 a7 a8 a9 b0 b1 tx kv up,rv x y w hh] u fun e u'=>e=Rw (.tuple #[])/\Hid (Cv 47 u' M W H (Gm W H f g bd cx cy ca cb x w a7 ((kX tx.data.toList a8 w).take hh.toNat) y c1))/\Hid (bK M W3 u')):=fun u hu hv=>(wR U0 u (HCS c1 u hu hv) hW hH tn ht (HUU u hu) hM f g bd cx cy ca cb kd a0 a1 a2 a3 a4 a5 a6 a7 a8 a9 b0 b1 up tx kv x y w hh hs hx hy hw RT Wm BR).mono fun e u' ⟨h1,h2,h3⟩=>⟨h1,h2,hu.trans h3⟩;have FI:Hid (0<b0->Cw 72 #[Pq K,rv x y w hh,sv f g bd,rv cx cy ca cb] W3 fun e u'=>e=Rw (.tuple #[])/\Hid (Cv 47 u' M W H c1)/\Hid (bK M W3 u')):=fun hb=>by rw[<-hc1,if_pos hb];exact S6 W3 (HCS c W3 (bK.refl _ _) GH) hW hH hp x y w hh f g bd cx cy ca cb
 have HN1:Hid (¬0<b0->c1=c):=fun hb=>by grind
 have Wi:((kd==3)=true/\(a6==1)=true/\2<=w/\2<=hh/\Hid (Ir W H f g bd cx cy ca cb kd a6 a7 a8 b0 tx.data.toList x y w hh c=ZR W H f g bd cx cy ca cb x y w hh c1))\/((kd==3)=true/\(kd==5)=false/\(a6==1)=true/\2<=w/\¬2<=hh/\Hid (Ir W H f g bd cx cy ca cb kd a6 a7 a8 b0 tx.data.toList x y w hh c=c1))\/((kd==3)=true/\(kd==5)=false/\(a6==1)=true/\¬2<=w/\Hid (Ir W H f g bd cx cy ca cb kd a6 a7 a8 b0 tx.data.toList x y w hh c=c1))\/((kd==3)=true/\(kd==5)=false/\(a6==1)=false/\Hid (Ir W H f g bd cx cy ca cb kd a6 a7 a8 b0 tx.data.toList x y w hh c=c1))\/((kd==3)=false/\(kd==5)=true/\1<=w/\Hid (Ir W H f g bd cx cy ca cb kd a6 a7 a8 b0 tx.data.toList x y w hh c=Gm W H f g bd cx cy ca cb x w a7 ((kX tx.data.toList a8 w).take hh.toNat) y c1))\/((kd==3)=false/\(kd==5)=true/\¬1<=w/\Hid (Ir W H f g bd cx cy ca cb kd a6 a7 a8 b0 tx.data.toList x y w hh c=c1))\/((kd==3)=false/\(kd==5)=false/\Hid (Ir W H f g bd cx cy ca cb kd a6 a7 a8 b0 tx.data.toList x y w hh c=c1)):=by
  unfold Ir;rw[hc1];by_cases k3:kd=3;·grind
  ·grind
 obtain⟨cz,hcz⟩:=af (Ir W H f g bd cx cy ca cb kd a6 a7 a8 b0 tx.data.toList x y w hh c);rw[hcz]at Wi⊢;clear h hp ht hU Om xF hn3 Hx hc1 hcz;unfold LV rv at PBc;unfold LV rv fO at PTc;unfold sv rv at FI;unfold LV fO rv;go_enter func46,ntmps46;by_cases hb:0<b0;focus go_wp2_with fail;clear ld hA;refine(FI hb).mono ?_;rintro e u1 ⟨rfl,VM,ii⟩;clear z0 z1 z2 z3 z4 z5 z6 z7 n0 n1 n2 n3 n4 n5 n6 n7 n8 n9 Y4 Y5 Y6 Ut Y7 Y8 r0 r1 r2 r3;obtain⟨⟨z0,z1,z2,z3,z4,z5,z6,z7⟩,⟨n0,n1,n2,n3,n4,n5,n6,n7,n8,n9,Y4,Y5,Y6,Ut,Y7,Y8⟩,r0,r1,r2,r3⟩:=HS u1 ii
 rotate_left;focus
  have VM:Hid (Cv 47 W3 M W H c1):=by rw[HN1 hb];exact GH
  have ii:Hid (bK M W3 W3):=bK.refl _ _
 all_goals
  rcases Wi with⟨k1,k2,k3,k4,HE⟩|⟨k1,k0,k2,k3,k4,HE⟩|⟨k1,k0,k2,k3,HE⟩|⟨k1,k0,k2,HE⟩|⟨k1,k2,k3,HE⟩|⟨k1,k2,k3,HE⟩|⟨k1,k2,HE⟩;all_goals
   go_wp2_with(first|(go_at_call 73;refine ai (PBc k3 k4 _ ii VM) ?_;rintro e u2 ⟨rfl,Mw,HC2⟩)|(go_at_call 74;refine ai (PTc _ ii VM) ?_;rintro e u2 ⟨rfl,Mw,HC2⟩));go_end0;first
    |exact⟨rfl,by rw[HE.out];exact Mw,(bK.below fm).trans HC2⟩
    |exact⟨rfl,by rw[HE.out];exact VM,(bK.below fm).trans ii⟩
end
