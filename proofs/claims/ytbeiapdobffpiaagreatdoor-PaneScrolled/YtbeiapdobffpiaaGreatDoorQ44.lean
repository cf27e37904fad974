import Derived.Test.YtbeiapdobffpiaaGreatDoorQ00
import Derived.Lib.Bytealg
import Derived.Test.YtbeiapdobffpiaaGreatDoorQ38
import Derived.Test.YtbeiapdobffpiaaGreatDoorQ02
import Derived.Test.YtbeiapdobffpiaaGreatDoorQ36
set_option linter.all false
set_option maxRecDepth 100000
set_option maxHeartbeats 16000000
namespace Go.Proofs.YtbeiapdobffpiaaGreatDoor
open Go.RowKit Go.Proofs.Tryz
section
open Go.Shelf
attribute[local go_sem] Oper.semAt_some
theorem pS:∀  t,(Lib.indexByte t 10=-1/\∀x∈t,x≠10)\/∃a b,t=a++10::b/\(∀x∈a,x≠10)/\Lib.indexByte t 10=(a.length:Int)
 |[]=>.inl ⟨rfl,fun x hx=>by cases hx⟩
 |c::t=>by
  by_cases e:c=10;·right;refine⟨[],t,by rw[e];rfl,fun x hx=>(by cases hx),?_⟩;unfold Lib.indexByte;rw[e];rfl
  ·have e2:(c==(10:UInt8))=false:=by simpa using e
   rcases pS t with⟨h1,h2⟩|⟨a,b,h1,h2,h3⟩
   ·left;refine⟨?_,fun x hx=>?_⟩;·unfold Lib.indexByte;grind
    grind
   ·right;refine⟨c::a,b,by grind,fun x hx=>?_,?_⟩;·grind
    ·unfold Lib.indexByte;grind
theorem tU(s:ByteArray)(c:Int)(w:World):Cw 242 #[.string s,.int .u8 c] w fun e w'=>e=Rw (Iq (Lib.indexByte s.data.toList c.toNat.toUInt8))/\w'=w:=by go_enter func242,ntmps242;go_wp2;rw[run_callFunc_extern func257 (by kernel_rfl) (by kernel_rfl) (by kernel_rfl) (e:=Extern.BytealgIndexByte.indexByte) (by kernel_rfl),Lib.run_indexByteString];simp only[Result.andThen];rw[Oper.upon_value];go_wp2;go_ret;simp_all
theorem GV(s:ByteArray)(w:World):Cw 221 #[.string s,.string ⟨#[10]⟩] w fun e w'=>e=Rw (Iq (Lib.indexByte s.data.toList 10))/\w'=w:=by
  have C:Hid (∀w,Cw 242 #[.string s,.int .u8 10] w fun e w'=>e=Rw (Iq (Lib.indexByte s.data.toList 10))/\w'=w):=fun w=>tU s 10 w;have ga:(({data:=#[10]}:ByteArray)[0]'(by show 0<1;omega))=10:=rfl;go_enter func221,ntmps221;go_wp2_with(go_at_call 242;refine(C _).mono ?_;rintro e w5 ⟨rfl,rfl⟩);all_goals
    go_ret;first
      |exact⟨rfl,rfl⟩
      | (refine⟨?_,rfl⟩;have h:([10]==s.toList)=true:=by assumption
         have e:s.data.toList=[10]:=by rw[<-Lib.toList_data];exact(beq_iff_eq.1 h).symm
         rw[e];rfl)
theorem Kt(s:ByteArray)(w:World):Cw 201 #[.string s,.string ⟨#[10]⟩] w fun e w'=>e=Rw (Iq (Lib.indexByte s.data.toList 10))/\w'=w:=by have C:=qH<|fun w=>GV s w;go_enter func201,ntmps201;go_wp2_with(go_at_call 221;refine(C _).mono ?_;rintro e w5 ⟨rfl,rfl⟩);go_ret;simp_all
def m9(b0 b1 b2:Nat)(W W':World):Prop:=W'.heap[b0]?=W.heap[b0]?/\W'.heap[b1]?=W.heap[b1]?/\W'.heap[b2]?=W.heap[b2]?
theorem m9.trans{b0 b1 b2}{A B C}(h:m9 b0 b1 b2 A B)(k:m9 b0 b1 b2 B C):m9 b0 b1 b2 A C:=⟨k.1.trans h.1,k.2.1.trans h.2.1,k.2.2.trans h.2.2⟩
def LK(t:List UInt8):Array Value:=#[.string ⟨t.toArray⟩]
def KT(b:Nat)(W:World):Nat:=match W.cell? (az b 0)with
 |some (.string s)=>s.size
 |_=>0
theorem JO(a b:List UInt8)  n  (hn:n=a.length):(⟨(a++b).toArray⟩:ByteArray).extract 0 n=⟨a.toArray⟩:=by subst hn;apply l8;simp_all
theorem F4(a b:List UInt8)  n k  (hn:n=a.length) (hk:k=(a++b).length):(⟨(a++b).toArray⟩:ByteArray).extract n k=⟨b.toArray⟩:=by subst hn;subst hk;apply l8;simp_all
theorem xv(n:Nat)(hn:3<=n)(Bp Bs Bv:Nat)(t:List UInt8)(ht:t.length<=1000000)(W0:World)(CQ:Bp≠Bs)(hvs:Bv≠Bs)
 (hp:W0.heap[Bp]?=some (.cells #[.string ⟨#[10]⟩] 9 (0,0))) (hs:W0.heap[Bs]?=some (.cells #[.string ⟨t.toArray⟩] 9 (0,0))) (hv:W0.heap[Bv]?=some (.cells #[Iq 0] 3 (0,0))):
 I7 Fence.wide n prog 199 #[Pq Bp,Pq Bs,Pq Bv] LK Bs (m9 Bp Bs Bv) (fun xs=>xs=bQ t) (fun x=>x.length<=t.length) (t.length+1) W0:=by
 intro k0 J W hW hJ hY h0;have Gx:=(hW.block Bp (aS.1 hp).1).trans hp;have hs1:=(hW.block Bs (aS.1 hs).1).trans hs;have zl:=(hW.block Bv (aS.1 hv).1).trans hv;have Bo:Hid (W.heap[Bp]?=some (.cells #[.string ⟨#[10]⟩] 9 (0,0))/\W.heap[Bs]?=some (.cells #[.string ⟨t.toArray⟩] 9 (0,0))/\W.heap[Bv]?=some (.cells #[Iq 0] 3 (0,0))):=⟨Gx,hs1,zl⟩;have cp:W.cell? (az Bp 0)=some (.string ⟨#[10]⟩):=by simp[World.cell?,Gx]
 have HJ:=qH<|hJ;have HY:Hid (∀pre x W1,J pre W1->pre.length<t.length+1->x.length<=t.length->YieldAt Fence.wide (n-1) prog k0 (LK x) W1 fun e W'=>e=.returned (.bool true)/\J (pre++[x]) W'/\m9 Bp Bs Bv W1 W'):=hY;have Y2:Hid ((bQ t).length<=t.length+1):=by have h1:=im t;have h2:=MC (a:=(10:UInt8)) (l:=t);show _<=_;omega
 have _K:=qH<|h0;clear hp hs hv Gx hs1 zl hJ hY h0;refine callsIn_of_wp func199 rfl trivial ?_ rfl;simp only[ntmps199,qm,fB,iS,Nat.reduceAdd,Nat.reduceSub,vC,vD,vF,vG,vH,tq];gi_wp2;gi_loopw[7] (fun _ wr=>∃(x:List UInt8) (pre:List (List UInt8)),Hid (pre++bQ x=bQ t)/\x.length<=t.length/\Hid (wr.heap[Bp]?=some (.cells #[.string ⟨#[10]⟩] 9 (0,0))/\wr.heap[Bs]?=some (.cells #[.string ⟨x.toArray⟩] 9 (0,0))/\wr.heap[Bv]?=some (.cells #[Iq 0] 3 (0,0)))/\Hid (J pre wr)) (fun _ wr=>KT Bs wr);case atStart=>exact⟨t,[],rfl,ai _,Bo,_K⟩
 case round=>
  obtain⟨x,pre,gV,Vj,HP,RK⟩:=hrel;clear cp Bo _K;have BF:pre.length<t.length+1:=by have h1:=congrArg List.length gV;rw[bf]at h1;have h2:=im x;have h3:=Y2.out;omega
  have cp:wr.cell? (az Bp 0)=some (.string ⟨#[10]⟩):=by simp[World.cell?,HP.1]
  have cs:wr.cell? (az Bs 0)=some (.string ⟨x.toArray⟩):=by simp[World.cell?,HP.2.1]
  have cv:wr.cell? (az Bv 0)=some (Iq 0):=by simp[World.cell?,HP.2.2]
  have IX:Hid (Calls prog 201 #[.string ⟨x.toArray⟩,.string ⟨#[10]⟩] wr fun e w'=>e=.returned (Iq (Lib.indexByte x 10))/\w'=wr):=Kt _ _;rcases pS x with⟨h1,h2⟩|⟨a,b,h1,h2,h3⟩;·rw[h1]at IX;have HX:=qH<|paras_one x h2;obtain⟨fn,tmps,assign,body,hy,hR⟩:=HY pre x wr RK BF Vj;dsimp only[LK]at hy;have HR:=qH<|hR;clear hR h1 h2 HP;gi_wp2_with fail;refine⟨trivial,fun _=>by omega,(callsIn_wide.2 IX).mono ?_⟩;rintro e w5 ⟨rfl,tB⟩;obtain rfl:=tB.symm;clear IX;gi_wp2;refine⟨fun _=>by omega,HR.mono ?_⟩;rintro e W3 ⟨rfl,MR,tP⟩;gi_wp2;go_end0;exact⟨⟨_,rfl⟩,_,by rw[<-gV.out,HX.out],MR⟩
  ·rw[h3]at IX;have HX:Hid (bQ x=a::bQ b):=by show _=_;rw[h1];exact pm a b h2
   have bH:x.length=a.length+1+b.length:=by rw[h1];simp;omega
   have nu:=RK.out;obtain⟨fn,tmps,assign,body,hy,hR⟩:=HY pre a wr RK BF (by omega);dsimp only[LK]at hy;have HR:=qH<|hR;have fT:(⟨x.toArray⟩:ByteArray).size=x.length:=by simp[ByteArray.size]
   have e1:(⟨x.toArray⟩:ByteArray).extract 0 a.length=⟨a.toArray⟩:=by rw[h1];exact JO a (10::b) _ rfl
   have e2:(⟨x.toArray⟩:ByteArray).extract (a.length+1) (a.length+1+b.length)=⟨b.toArray⟩:=by rw[<-bH];rw[h1,show a++10::b=(a++[10])++b by simp];exact F4 (a++[10]) b _ _ (by simp) rfl
   clear hR h1 h2 h3;gi_wp2_with fail;refine⟨trivial,fun _=>by omega,(callsIn_wide.2 IX).mono ?_⟩;rintro e w5 ⟨rfl,tB⟩;obtain rfl:=tB.symm;clear IX;gi_wp2;refine⟨fun _=>by omega,HR.mono ?_⟩;clear HR hy;rintro e W3 ⟨rfl,MR,tP⟩;have CJ:=tP.1.trans HP.1;have ZY:=tP.2.1.trans HP.2.1;have X7:=tP.2.2.trans HP.2.2;have cp3:W3.cell? (az Bp 0)=some (.string ⟨#[10]⟩):=by simp[World.cell?,CJ]
   have cs3:W3.cell? (az Bs 0)=some (.string ⟨x.toArray⟩):=by simp[World.cell?,ZY]
   have fs3:W3.frozen? (az Bs 0)=false:=frozen_of_row _ _ _ _ _ ZY;obtain⟨W4,SE⟩:=aj (W3.setCell (az Bs 0) (.string ⟨b.toArray⟩));have IG:Hid (W4.heap[Bp]?=some (.cells #[.string ⟨#[10]⟩] 9 (0,0))/\W4.heap[Bs]?=some (.cells #[.string ⟨b.toArray⟩] 9 (0,0))/\W4.heap[Bv]?=some (.cells #[Iq 0] 3 (0,0))):=by rw[<-SE];exact⟨(cF _ (az Bs 0) _ Bp CQ).trans CJ,Boxed.set (t:=9) (.string ⟨b.toArray⟩) ZY,(cF _ (az Bs 0) _ Bv hvs).trans X7⟩
   have HJ4:Hid (J (pre++[a]) W4):=by rw[<-SE];exact HJ _ _ _ _ MR (grownBy_setCell' W3 Bs _) (.inr rfl)
   have D4:Hid ((pre++[a])++bQ b=bQ t):=by show _=_;rw[<-gV.out,HX.out];simp
   have Np:Hid (KT Bs W4=b.length):=by
    show _=_;have:W4.cell? (az Bs 0)=some (.string ⟨b.toArray⟩):=by simp[World.cell?,IG.2.1]
    unfold KT;rw[this];simp[ByteArray.size]
   have HMX:Hid (KT Bs wr=x.length):=by show _=_;unfold KT;rw[cs];exact fT
   clear CJ ZY X7 MR tP cp cs cv HP RK nu;gi_wp2;go_roundw;case rel=>grind
   case measure=>rw[Np.out,HMX.out];omega
attribute[local go_sem] Oper.semAt_some
theorem splitSeq0_any(s:ByteArray)(W:World):
 Cw 170 #[.string s,.string ⟨#[10]⟩,Iq 0] W fun e w'=>e=Rw (.func (.func 199) #[] #[Pq (W.heap.size+1),Pq W.heap.size,Pq (W.heap.size+1+1)])/\w'=((W.alloc (.cells #[.string s] 9)).alloc (.cells #[.string ⟨#[10]⟩] 9)).alloc (.cells #[Iq 0] 3):=by go_enter func170,ntmps170;go_wp2;go_ret;simp_all
theorem xw(s:ByteArray)(W:World):
 Cw 133 #[.string s,.string ⟨#[10]⟩] W fun e w'=>e=Rw (.func (.func 199) #[] #[Pq (W.heap.size+1),Pq W.heap.size,Pq (W.heap.size+1+1)])/\w'=((W.alloc (.cells #[.string s] 9)).alloc (.cells #[.string ⟨#[10]⟩] 9)).alloc (.cells #[Iq 0] 3):=by have C:=qH<|splitSeq0_any s;go_enter func133,ntmps133;go_wp2_with(go_at_call 170;refine(C _).mono ?_;rintro e w5 ⟨rfl,rfl⟩);go_ret;simp_all
theorem GL{b0 b1 b2 B}(h0:b0<B)(h1:b1<B)(h2:b2<B)  W   l   x  (hl:B<=l):m9 b0 b1 b2 W (W.putObj l x):=by have hg:=grownBy_putObj' W l x;have key:∀b,b<B->(W.putObj l x).heap[b]?=W.heap[b]?:=fun b hb=>World.putObj_heap_other (by omega);exact⟨key _ h0,key _ h1,key _ h2⟩
theorem N4  t  :0<=mh t/\mh t<=2*t.length:=by unfold mh;have h:=jv (aZ t);have h1:=(dR _ h (cL (aZ t)).length);grind[fM,aZ,du]
theorem DV(s:ByteArray)(W:World)(ht:dC W)(hs:s.size<=4000):
 Calls prog 98 #[.string s] W fun e W'=>e=.returned (Iq (ue s.data.toList))/\Below W.heap.size W W':=by
 obtain⟨t,htt⟩:=aj s.data.toList;have hst:s=⟨t.toArray⟩:=by rw[<-htt]
 have zj:t.length<=4000:=by rw[<-htt,j9];exact hs
 rw[htt];subst hst;clear htt hs;refine(callsIn_wide (n:=6)).1 ?_;refine callsIn_of_wp_marks func98 rfl trivial ?_ rfl;simp only[ntmps98,qm,fB,iS,Nat.reduceAdd,Nat.reduceSub,vC,vD,vF,vG,vH,tq];gi_wp2_with fail;refine⟨trivial,(callsIn_wide.2 (xw ⟨t.toArray⟩ _)).mono ?_⟩;rintro e w' ⟨rfl,rfl⟩;obtain⟨S,hS⟩:=aj W.heap.size;have bO:=Boxed.new W 3 (Iq 0);obtain⟨W0,dG⟩:=aj ((((W.alloc (.cells #[Iq 0] 3)).alloc (.cells #[.string ⟨t.toArray⟩] 9)).alloc (.cells #[.string ⟨#[10]⟩] 9)).alloc (.cells #[Iq 0] 3));have bO0:Boxed W0 S 3 (Iq 0):=by rw[<-dG,<-hS];exact((bO.alloc _).alloc _).alloc _
 have bS0:Boxed W0 (S+1) 9 (.string ⟨t.toArray⟩):=by rw[<-dG,<-hS];have:=Boxed.new (W.alloc (.cells #[Iq 0] 3)) 9 (.string ⟨t.toArray⟩);rw[aO]at this;exact(this.alloc _).alloc _
 have bP0:Boxed W0 (S+2) 9 (.string ⟨#[10]⟩):=by rw[<-dG,<-hS];have:=Boxed.new ((W.alloc (.cells #[Iq 0] 3)).alloc (.cells #[.string ⟨t.toArray⟩] 9)) 9 (.string ⟨#[10]⟩);rw[aO,aO]at this;exact this.alloc _
 have bV0:Boxed W0 (S+3) 3 (Iq 0):=by rw[<-dG,<-hS];have:=Boxed.new (((W.alloc (.cells #[Iq 0] 3)).alloc (.cells #[.string ⟨t.toArray⟩] 9)).alloc (.cells #[.string ⟨#[10]⟩] 9)) 3 (Iq 0);rw[aO,aO,aO]at this;exact this
 have Eu:Below W.heap.size W W0:=by rw[<-dG];exact((((Gr.refl W).alloc _).alloc _).alloc _).alloc _|>.below
 have fT:W0.heap.size=S+4:=by rw[<-dG];simp;omega
 rw[aO,dG];gi_wp2;rw[hS]at Eu;refine uh rfl (by omega) (gf:=199) (lb:=#[Pq (S+1+1),Pq (S+1),Pq (S+1+1+1)]) rfl trivial (enters_of func199 (by kernel_rfl) rfl)
  (xv 5 (by omega) (S+1+1) (S+1) (S+1+1+1) t (by omega) W0 (by omega) (by omega) bP0 bS0 bV0) (by omega) m9.trans (GL (by omega) (by omega) (by omega)) (ag _ _) (fun _=>rfl)
  (fun pre W'=>(Boxed W' S 3 (Iq (K1 (pre.map mh)))/\Below S W W')/\W0.heap.size<=W'.heap.size)
  (OwnFrom.and (OwnFrom.and (Own.from (boxed_own S 3 (fun pre:List (List UInt8)=>Iq (K1 (pre.map mh)))) _) (ownFrom_below (by omega) (by omega))) (fun _ _ _ _ h hg _=>aT h hg.size))
  (fun pre A B row ⟨h,h2⟩ hg hr=>⟨⟨h.1.kept hg (fun e=>by grind),h.2.grown hg (by omega) (fun q hq=>by grind)⟩,aT h2 hg.size⟩)
  ⟨⟨bO0,Eu⟩,ai _⟩
  (fun x a' W'=>a'={tmps:=#[.string ⟨t.toArray⟩,undef,Iq 0,Pq S,.string ⟨x.toArray⟩,.string ⟨t.toArray⟩,.func (.func 199) #[] #[Pq (S+1+1),Pq (S+1),Pq (S+1+1+1)],.string ⟨x.toArray⟩,undef,undef,undef,undef,undef],defers:=[]})
  (fun _ _ _ _ _ _ hs _ _=>hs)
  ?assign ?body ?done;case assign=>rintro k0 pre x W' K hI hK;dsimp only[LK]at hK⊢;gi_wp2;exact hK _ _ (KeepsFrom.refl _ _) ⟨rfl,rfl,rfl⟩ hI rfl
 case body=>
  rintro k0 pre x a' W' ⟨⟨hv,hB⟩,hWl⟩ rfl hlt Vj;have hc:=hv.cell;have hf:=hv.frozen;have Sr:=hB.size;have hxz:(⟨x.toArray⟩:ByteArray).size=x.length:=by simp[ByteArray.size]
  obtain⟨M,hM⟩:=aj (K1 (pre.map mh));have hcb:=N4 x;obtain⟨y,hy⟩:=aj (mh x);have HSN:Hid (K1 ((pre++[x]).map mh)=max M y):=by show _=_;rw[li,List.map_cons,List.map_nil,zG,hM,hy]
  have CO:Hid (∀u,(u=W'\/u=W'.drew)->Calls prog 134 #[.string ⟨x.toArray⟩] u fun e u'=>e=.returned (Iq y)/\Hid (Below W'.heap.size W' u')/\u'.cell? (az S 0)=some (Iq M)/\u'.frozen? (az S 0)=false):=fun u hu=>by
   have iY:Below W'.heap.size W' u:=by
    rcases hu with rfl|rfl;·exact ag _ _
    ·exact(ag _ _).drew
   have xQ:=(ht.below (w':=W') (by grind)).below iY;refine(yw ⟨x.toArray⟩ u xQ (by rw[hxz];omega)).mono ?_;rintro e u' ⟨rfl,q⟩;have qZ:=iY.trans (q.mono iY.size);refine⟨by rw[<-hy];rfl,qZ,?_,?_⟩;·rw[<-hM];exact(qZ.cell (p:=(az S 0)) hv.lt).trans hv.cell
   ·exact(oz (qZ.block S hv.lt)).trans hv.frozen
  have gT:Hid (∀u,Below W'.heap.size W' u->Ei W0.heap.size (m9 (S+1+1) (S+1) (S+1+1+1)) (fun pre W'=>(Boxed W' S 3 (Iq (K1 (pre.map mh)))/\Below S W W')/\W0.heap.size<=W'.heap.size) (pre++[x]) W' .normal {tmps:=#[],defers:=[]} (u.setCell (az S 0) (Iq (max M y)))):=fun u hu=>by
   have CY:Boxed u S 3 (Iq (K1 (pre.map mh))):=(hu.block S hv.lt).trans hv;have key:∀b,b≠S->b<W'.heap.size->(u.setCell (az S 0) (Iq (max M y))).heap[b]?=W'.heap[b]?:=fun b hb hl=>(cF u (az S 0) _ b hb).trans (hu.block b hl);refine⟨⟨aT hu.size (by simp),fun k o hk ho _=>?_⟩,⟨key _ (by omega) (by omega),key _ (by omega) (by omega),key _ (by omega) (by omega)⟩,⟨by rw[HSN.out];exact CY.set _,?_⟩,aT hWl (aT hu.size (by simp))⟩;·grind
   ·exact(hB.trans (hu.mono (by omega))).setCell (p:=(az S 0)) (ai _) _
  rw[hM]at hc;rw[hy]at hcb;have oV:prog.follows .mixedOrders=true:=by kernel_rfl
  clear hM hy hv hB;gi_wp2_with fail;gi_region_with_o(refine⟨trivial,(CallsIn.inRound k0 (callsIn_wide.2 (CO _ (by grind)))).mono ?_⟩;rintro e wq ⟨rfl,bq,cq,fq⟩);all_goals(gi_wp2_with fail)
  all_goals exact gT wq bq
 case done=>rintro D ys W' hD rfl ⟨⟨hv,hB⟩,hWl⟩ hK;have hc:=hv.cell;gi_wp2;refine⟨by simp,.inl ⟨_,_,rfl,run_takeDeferred hK,?_⟩⟩;exact⟨_,results_tmp rfl _ _ _,rfl,by rw[hS];exact hB.trans (belowK_b (w:=W) (by omega) W' D _ _ (by omega) hK rfl rfl)⟩
