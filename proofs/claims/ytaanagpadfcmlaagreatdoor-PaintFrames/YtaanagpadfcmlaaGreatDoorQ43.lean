import Derived.CallsIn
import Derived.OrdersIn
import Derived.OrdersHeld
import Derived.TacticsIn
import Derived.RangeFuncCalls
import Derived.Deep.RegionHeld
import Derived.Test.YtaanagpadfcmlaaGreatDoorQ00
import Derived.Lib.Bytealg
import Derived.Test.YtaanagpadfcmlaaGreatDoorQ41
import Derived.Test.YtaanagpadfcmlaaGreatDoorQ01
import Derived.Test.YtaanagpadfcmlaaGreatDoorQ37
import Derived.Test.YtaanagpadfcmlaaGreatDoorQ36
set_option linter.all false
set_option maxRecDepth 100000
set_option maxHeartbeats 16000000
namespace Go.Proofs.YtaanagpadfcmlaaGreatDoor
open Go.RowKit Go.Sort Go.Proofs.Tryz
section
open Go
def p_(o:Oper):Bool:=match o.op with|.defer _=>false|_=>true
theorem Jd{P}{b}{Q}{n l i}{K j}{a}{w}(hd:b.all p_=true)(y:¬LetsOut Q)(k:∀a w,K a w->j a w)(h:wpOp P b Q i K a w):wpOpIn (Fence.wide.inRound l) n P b Q i j a w:=by
 unfold wpOp at h;unfold wpOpIn;cases p:b[i]? with
 |none=>rw[p]at h;exact k _ _ h
 |some o=>
  rw[p]at h;dsimp only at h⊢;have z:∀c,o.op≠.defer c:=λc B=>by grind[p_]
  split at h
  ·rename_i m;rw[if_pos m];rcases h with h|⟨_,h⟩;case inr=>exact absurd h y
   refine⟨λ_ _=>trivial,?_⟩;show o.uponIn _ n P a j Q ((Oper.semAt (some l) a.eval o).run P w);rw[Oper.semAt_some l a.eval o z];unfold Oper.wp at h;generalize(execOp a.eval o).run P w=r at*;cases r with
   |ok x w'=>
    cases x<;>simp only[Oper.upon,Oper.uponIn]at h⊢;case value u=>grind
    case skip=>grind
    case defer d=>grind
    case enter f args=>refine⟨λq=>(by cases q),CallsIn.inRound l (callsIn_wide.2 (ag h λe A C=>?_))⟩;grind
    case row row args=>refine⟨λq=>(by cases q),λc t _=>?_⟩;obtain⟨v,w',r,s⟩:=h c t;exact⟨v,w',k _ _ r,stepsIn_wide.2 s⟩
   |halt x w'=>cases x<;>simp only[Oper.upon,Oper.uponIn]at h⊢;omega
  ·rename_i m;rw[if_neg m];exact⟨λ_ _=>trivial,k _ _ h⟩
theorem tr{P}{d}{Q}{n l}{j}(hd:d.all p_=true)(e:¬LetsOut Q):∀  fuel   b   a   w,wpAny P j d Q fuel b a w->wpAnyIn (Fence.wide.inRound l) n P j d Q fuel b a w
 |0,_,_,_,h=>h
 |fuel+1,_,_,_,h=>⟨h.1,λi hi=>Jd hd e (λa w=>tr hd e fuel _ a w) (h.2 i hi)⟩
theorem vA{P}{b}{Q}{n l id}{S}{a}{w}(hd:b.all p_=true)(d:¬LetsOut Q)(e:P.follows .mixedOrders=true)(hS:S w.drew)(h:S w.drew->wpAnyH P .any b Q S b.size (Array.replicate b.size false) a w.drew):(Code.region id b true).wpIn (Fence.wide.inRound l) n P Q a w:=
 wpIn_region_any e (tr hd d _ _ _ _ (wpAny_of_held _ _ _ _ (h hS)))
end
section
open Go.Shelf
attribute[local go_sem] Oper.semAt_some
theorem oQ:∀  t,(Lib.indexByte t 10=-1/\∀x∈t,x≠10)\/∃a b,t=a++10::b/\(∀x∈a,x≠10)/\Lib.indexByte t 10=(a.length:Int)
 |[]=>.inl ⟨rfl,λx d=>by cases d⟩
 |c::t=>by
  by_cases e:c=10;·right;refine⟨[],t,by rw[e];rfl,λx d=>(by cases d),?_⟩;unfold Lib.indexByte;rw[e];rfl
  ·have i:(c==(10:UInt8))=false:=by simpa using e
   rcases oQ t with⟨h1,h⟩|⟨a,b,h1,h,j⟩
   ·left;refine⟨?_,λx d=>?_⟩;·unfold Lib.indexByte;grind
    grind
   ·right;refine⟨c::a,b,rd,λx d=>?_,?_⟩;·grind
    ·unfold Lib.indexByte;grind
theorem sU(s:ByteArray)(c:Int)(w:World):Cw 260 #[.string s,.int .u8 c] w λe w'=>e=Rw (Iq (Lib.indexByte s.data.toList c.toNat.toUInt8))/\w'=w:=by go_enter func260,ntmps260;go_wp2;rw[run_callFunc_extern func273 ns ns ns (e:=Extern.BytealgIndexByte.indexByte) ns,Lib.run_indexByteString];simp only[Result.andThen];rw[Oper.upon_value];go_wp2;go_ret;simp_all
theorem Fw(s:ByteArray)(w:World):Cw 247 #[.string s,.string ⟨#[10]⟩] w λe w'=>e=Rw (Iq (Lib.indexByte s.data.toList 10))/\w'=w:=by
  have C:Hid (∀w,Cw 260 #[.string s,.int .u8 10] w λe w'=>e=Rw (Iq (Lib.indexByte s.data.toList 10))/\w'=w):=λw=>sU s 10 w;have a:(({data:=#[10]}:ByteArray)[0]'(by show 0<1;omega))=10:=rfl;go_enter func247,ntmps247;go_wp2_with(go_at_call 260;refine(C _).mono ?_;rintro e b ⟨rfl,rfl⟩);all_goals
    go_ret;first
      |exact⟨rfl,rfl⟩
      | (refine⟨?_,rfl⟩;have h:([10]==s.toList)=true:=by assumption
         have e:s.data.toList=[10]:=by rw[<-Lib.toList_data];exact(beq_iff_eq.1 h).symm
         rw[e];rfl)
theorem Iu(s:ByteArray)(w:World):Cw 230 #[.string s,.string ⟨#[10]⟩] w λe w'=>e=Rw (Iq (Lib.indexByte s.data.toList 10))/\w'=w:=by have C:=qH<|λw=>Fw s w;go_enter func230,ntmps230;go_wp2_with(go_at_call 247;refine(C _).mono ?_;rintro e a ⟨rfl,rfl⟩);go_ret;simp_all
def jO(b0 b1 b2:Nat)(W W':World):Prop:=W'.heap[b0]?=W.heap[b0]?/\W'.heap[b1]?=W.heap[b1]?/\W'.heap[b2]?=W.heap[b2]?
theorem jO.trans{a b d}{A B C}(h:jO a b d A B)(k:jO a b d B C):jO a b d A C:=⟨k.1.trans h.1,k.2.1.trans h.2.1,k.2.2.trans h.2.2⟩
def Gg(t:List UInt8):Array Value:=#[.string ⟨t.toArray⟩]
def I3(b:Nat)(W:World):Nat:=match W.cell? (aj b 0)with
 |some (.string s)=>s.size
 |_=>0
theorem Ia(a b:List UInt8)n(d:n=a.length):(⟨(a++b).toArray⟩:ByteArray).extract 0 n=⟨a.toArray⟩:=by subst d;apply kM;simp_all
theorem E6(a b:List UInt8)n k(e:n=a.length)(d:k=(a++b).length):(⟨(a++b).toArray⟩:ByteArray).extract n k=⟨b.toArray⟩:=by subst e;subst d;apply kM;simp_all
theorem ny(n:Nat)(hn:3<=n)(i h j:Nat)(t:List UInt8)(ht:t.length<=1000000)(P:World)(zb:i≠h)(ze:j≠h)(hp:P.heap[i]?=some (.cells #[.string ⟨#[10]⟩] 9 (0,0)))(hs:P.heap[h]?=some (.cells #[.string ⟨t.toArray⟩] 9 (0,0)))(hv:P.heap[j]?=some (.cells #[Iq 0] 3 (0,0))):
 GK Fence.wide n prog 228 #[Pq i,Pq h,Pq j] Gg h (jO i h j) (λxs=>xs=bj t) (λx=>x.length<=t.length) (t.length+1) P:=by
 intro k0 J W Z hJ hY h0;have u:=(Z.block i (aD.1 hp).1).trans hp;have G:=(Z.block h (aD.1 hs).1).trans hs;have I:=(Z.block j (aD.1 hv).1).trans hv;have C:Hid (W.heap[i]?=some (.cells #[.string ⟨#[10]⟩] 9 (0,0))/\W.heap[h]?=some (.cells #[.string ⟨t.toArray⟩] 9 (0,0))/\W.heap[j]?=some (.cells #[Iq 0] 3 (0,0))):=⟨u,G,I⟩;have X:W.cell? (aj i 0)=some (.string ⟨#[10]⟩):=by simp[World.cell?,u]
 have HJ:=qH<|hJ;have HY:Hid (∀d x V,J d V->d.length<t.length+1->x.length<=t.length->YieldAt Fence.wide (n-1) prog k0 (Gg x) V λe W'=>e=.returned (.bool true)/\J (d++[x]) W'/\jO i h j V W'):=hY;have T:Hid ((bj t).length<=t.length+1):=by have h1:=fU t;have s:=KH (a:=(10:UInt8)) (l:=t);show _<=_;omega
 have B:=qH<|h0;clear hp hs hv u G I hJ hY h0;refine callsIn_of_wp func228 rfl trivial ?_ rfl;simp only[ntmps228,jh,dP,fP,Nat.reduceAdd,Nat.reduceSub,pf,ph,pi,pm,po,lT];gi_wp2;gi_loopw[7] (λ_ wr=>∃(x:List UInt8) (d:List (List UInt8)),Hid (d++bj x=bj t)/\x.length<=t.length/\Hid (wr.heap[i]?=some (.cells #[.string ⟨#[10]⟩] 9 (0,0))/\wr.heap[h]?=some (.cells #[.string ⟨x.toArray⟩] 9 (0,0))/\wr.heap[j]?=some (.cells #[Iq 0] 3 (0,0)))/\Hid (J d wr)) (λ_ wr=>I3 h wr);case atStart=>exact⟨t,[],rfl,ae _,C,B⟩
 case round=>
  obtain⟨x,d,m,zg,r,o⟩:=hrel;clear X C B;have F:d.length<t.length+1:=by have h1:=congrArg List.length m;rw[aU]at h1;have s:=fU x;have Y:=T.out;omega
  have X:wr.cell? (aj i 0)=some (.string ⟨#[10]⟩):=by simp[World.cell?,r.1]
  have cs:wr.cell? (aj h 0)=some (.string ⟨x.toArray⟩):=by simp[World.cell?,r.2.1]
  have cv:wr.cell? (aj j 0)=some (Iq 0):=by simp[World.cell?,r.2.2]
  have y:Hid (Calls prog 230 #[.string ⟨x.toArray⟩,.string ⟨#[10]⟩] wr λe w'=>e=.returned (Iq (Lib.indexByte x 10))/\w'=wr):=Iu _ _;rcases oQ x with⟨h1,s⟩|⟨a,b,h1,s,Y⟩;·rw[h1]at y;have U:=qH<|paras_one x s;obtain⟨fn,N,assign,body,hy,hR⟩:=HY d x wr o F zg;dsimp only[Gg]at hy;have O:=qH<|hR;clear hR h1 s r;gi_wp2_with fail;refine⟨trivial,λ_=>dg,(callsIn_wide.2 y).mono ?_⟩;rintro e w5 ⟨rfl,w⟩;obtain rfl:=w.symm;clear y;gi_wp2;refine⟨λ_=>dg,O.mono ?_⟩;rintro e z ⟨rfl,p,k⟩;gi_wp2;go_end0;exact⟨⟨_,rfl⟩,_,by rw[<-m.out,U.out],p⟩
  ·rw[Y]at y;have U:Hid (bj x=a::bj b):=by show _=_;rw[h1];exact ou a b s
   have E:x.length=a.length+1+b.length:=by rw[h1];simp;omega
   have za:=o.out;obtain⟨fn,N,assign,body,hy,hR⟩:=HY d a wr o F dg;dsimp only[Gg]at hy;have O:=qH<|hR;have zc:(⟨x.toArray⟩:ByteArray).size=x.length:=by simp[ByteArray.size]
   have e1:(⟨x.toArray⟩:ByteArray).extract 0 a.length=⟨a.toArray⟩:=by rw[h1];exact Ia a (10::b) _ rfl
   have e2:(⟨x.toArray⟩:ByteArray).extract (a.length+1) (a.length+1+b.length)=⟨b.toArray⟩:=by rw[<-E];rw[h1,show a++10::b=(a++[10])++b by simp];exact E6 (a++[10]) b _ _ rn rfl
   clear hR h1 s Y;gi_wp2_with fail;refine⟨trivial,λ_=>dg,(callsIn_wide.2 y).mono ?_⟩;rintro e w5 ⟨rfl,w⟩;obtain rfl:=w.symm;clear y;gi_wp2;refine⟨λ_=>dg,O.mono ?_⟩;clear O hy;rintro e z ⟨rfl,p,k⟩;have v:=k.1.trans r.1;have q:=k.2.1.trans r.2.1;have L:=k.2.2.trans r.2.2;have zj:z.cell? (aj i 0)=some (.string ⟨#[10]⟩):=by simp[World.cell?,v]
   have zk:z.cell? (aj h 0)=some (.string ⟨x.toArray⟩):=by simp[World.cell?,q]
   have zl:z.frozen? (aj h 0)=false:=frozen_of_row _ _ _ _ _ q;obtain⟨A,D⟩:=ad (z.setCell (aj h 0) (.string ⟨b.toArray⟩));have S:Hid (A.heap[i]?=some (.cells #[.string ⟨#[10]⟩] 9 (0,0))/\A.heap[h]?=some (.cells #[.string ⟨b.toArray⟩] 9 (0,0))/\A.heap[j]?=some (.cells #[Iq 0] 3 (0,0))):=by rw[<-D];exact⟨(bK _ (aj h 0) _ i zb).trans v,Boxed.set (t:=9) (.string ⟨b.toArray⟩) q,(bK _ (aj h 0) _ j ze).trans L⟩
   have zh:Hid (J (d++[a]) A):=by rw[<-D];exact HJ _ _ _ _ p (grownBy_setCell' z h _) (.inr rfl)
   have zi:Hid ((d++[a])++bj b=bj t):=by show _=_;rw[<-m.out,U.out];simp
   have Q:Hid (I3 h A=b.length):=by
    show _=_;have:A.cell? (aj h 0)=some (.string ⟨b.toArray⟩):=by simp[World.cell?,S.2.1]
    unfold I3;rw[this];simp[ByteArray.size]
   have R:Hid (I3 h wr=x.length):=by show _=_;unfold I3;rw[cs];exact zc
   clear v q L p k X cs cv r o za;gi_wp2;go_roundw;case rel=>grind
   case measure=>rw[Q.out,R.out];omega
attribute[local go_sem] Oper.semAt_some
theorem splitSeq0_any(s:ByteArray)(W:World):
 Cw 190 #[.string s,.string ⟨#[10]⟩,Iq 0] W λe w'=>e=Rw (.func (.func 228) #[] #[Pq (W.heap.size+1),Pq W.heap.size,Pq (W.heap.size+1+1)])/\w'=((W.alloc (.cells #[.string s] 9)).alloc (.cells #[.string ⟨#[10]⟩] 9)).alloc (.cells #[Iq 0] 3):=by go_enter func190,ntmps190;go_wp2;go_ret;simp_all
theorem nA(s:ByteArray)(W:World):
 Cw 138 #[.string s,.string ⟨#[10]⟩] W λe w'=>e=Rw (.func (.func 228) #[] #[Pq (W.heap.size+1),Pq W.heap.size,Pq (W.heap.size+1+1)])/\w'=((W.alloc (.cells #[.string s] 9)).alloc (.cells #[.string ⟨#[10]⟩] 9)).alloc (.cells #[Iq 0] 3):=by have C:=qH<|splitSeq0_any s;go_enter func138,ntmps138;go_wp2_with(go_at_call 190;refine(C _).mono ?_;rintro e a ⟨rfl,rfl⟩);go_ret;simp_all
theorem tQ{d e h B}(i:d<B)(h1:e<B)(j:h<B)W l x(n:B<=l):jO d e h W (W.putObj l x):=by have m:=grownBy_putObj' W l x;have a:∀b,b<B->(W.putObj l x).heap[b]?=W.heap[b]?:=λb k=>World.putObj_heap_other dg;exact⟨a _ i,a _ h1,a _ j⟩
theorem Le t:0<=l4 t/\l4 t<=2*t.length:=by unfold l4;have h:=cE (ak t);have h1:=(bB _ h (aG (ak t)).length);grind[bu,ak,aX]
theorem CQ(s:ByteArray)(W:World)(ht:bN W)(P:s.size<=4000):
 Calls prog 86 #[.string s] W λe a=>e=.returned (Iq (td s.data.toList))/\Below W.heap.size W a:=by
 obtain⟨t,r⟩:=ad s.data.toList;have Z:s=⟨t.toArray⟩:=by rw[<-r]
 have zj:t.length<=4000:=by rw[<-r,dZ];exact P
 rw[r];subst Z;clear r P;refine(callsIn_wide (n:=6)).1 ?_;refine callsIn_of_wp_marks func86 rfl trivial ?_ rfl;simp only[ntmps86,jh,dP,fP,Nat.reduceAdd,Nat.reduceSub,pf,ph,pi,pm,po,lT];gi_wp2_with fail;refine⟨trivial,(callsIn_wide.2 (nA ⟨t.toArray⟩ _)).mono ?_⟩;rintro e w' ⟨rfl,rfl⟩;obtain⟨S,hS⟩:=ad W.heap.size;have bO:=Boxed.new W 3 (Iq 0);obtain⟨l,i⟩:=ad ((((W.alloc (.cells #[Iq 0] 3)).alloc (.cells #[.string ⟨t.toArray⟩] 9)).alloc (.cells #[.string ⟨#[10]⟩] 9)).alloc (.cells #[Iq 0] 3));have T:Boxed l S 3 (Iq 0):=by rw[<-i,<-hS];exact((bO.alloc _).alloc _).alloc _
 have V:Boxed l (S+1) 9 (.string ⟨t.toArray⟩):=by rw[<-i,<-hS];have:=Boxed.new (W.alloc (.cells #[Iq 0] 3)) 9 (.string ⟨t.toArray⟩);rw[au]at this;exact(this.alloc _).alloc _
 have U:Boxed l (S+2) 9 (.string ⟨#[10]⟩):=by rw[<-i,<-hS];have:=Boxed.new ((W.alloc (.cells #[Iq 0] 3)).alloc (.cells #[.string ⟨t.toArray⟩] 9)) 9 (.string ⟨#[10]⟩);rw[au,au]at this;exact this.alloc _
 have X:Boxed l (S+3) 3 (Iq 0):=by rw[<-i,<-hS];have:=Boxed.new (((W.alloc (.cells #[Iq 0] 3)).alloc (.cells #[.string ⟨t.toArray⟩] 9)).alloc (.cells #[.string ⟨#[10]⟩] 9)) 3 (Iq 0);rw[au,au,au]at this;exact this
 have G:Below W.heap.size W l:=by rw[<-i];exact((((Gr.refl W).alloc _).alloc _).alloc _).alloc _|>.below
 have zi:l.heap.size=S+4:=by rw[<-i];simp;omega
 rw[au,i];gi_wp2;rw[hS]at G;refine lN rfl dg (gf:=228) (lb:=#[Pq (S+1+1),Pq (S+1),Pq (S+1+1+1)]) rfl trivial (enters_of func228 ns rfl)
  (ny 5 dg (S+1+1) (S+1) (S+1+1+1) t dg l dg dg U V X) dg jO.trans (tQ dg dg dg) (af _ _) (λ_=>rfl)
  (λd a=>(Boxed a S 3 (Iq (I8 (d.map l4)))/\Below S W a)/\l.heap.size<=a.heap.size)
  (OwnFrom.and (OwnFrom.and (Own.from (boxed_own S 3 (λd:List (List UInt8)=>Iq (I8 (d.map l4)))) _) (ownFrom_below dg dg)) (λ_ _ _ _ h L _=>aF h L.size))
  (λd A B row ⟨h,h2⟩ L hr=>⟨⟨h.1.kept L (λe=>rd),h.2.grown L dg (λq hq=>rd)⟩,aF h2 L.size⟩)
  ⟨⟨T,G⟩,ae _⟩
  (λx a' a=>a'={tmps:=#[.string ⟨t.toArray⟩,undef,Iq 0,Pq S,.string ⟨x.toArray⟩,.string ⟨t.toArray⟩,.func (.func 228) #[] #[Pq (S+1+1),Pq (S+1),Pq (S+1+1+1)],.string ⟨x.toArray⟩,undef,undef,undef,undef,undef],defers:=[]})
  (λ_ _ _ _ _ _ P _ _=>P)
  ?assign ?body ?done;case assign=>rintro k0 d x a K hI I;dsimp only[Gg]at I⊢;gi_wp2;exact I _ _ (KeepsFrom.refl _ _) ⟨rfl,rfl,rfl⟩ hI rfl
 case body=>
  rintro k0 d x a' a ⟨⟨j,F⟩,J⟩ rfl zh zk;have hc:=j.cell;have hf:=j.frozen;have zg:=F.size;have zc:(⟨x.toArray⟩:ByteArray).size=x.length:=by simp[ByteArray.size]
  obtain⟨M,O⟩:=ad (I8 (d.map l4));have Y:=Le x;obtain⟨y,hy⟩:=ad (l4 x);have R:Hid (I8 ((d++[x]).map l4)=max M y):=by show _=_;rw[kQ,List.map_cons,List.map_nil,xP,O,hy]
  have CO:Hid (∀u,(u=a\/u=a.drew)->Calls prog 140 #[.string ⟨x.toArray⟩] u λe Q=>e=.returned (Iq y)/\Hid (Below a.heap.size a Q)/\Q.cell? (aj S 0)=some (Iq M)/\Q.frozen? (aj S 0)=false):=λu hu=>by
   have z:Below a.heap.size a u:=by
    rcases hu with rfl|rfl;·exact af _ _
    ·exact(af _ _).drew
   have za:=(ht.below (w':=a) rd).below z;refine(oL ⟨x.toArray⟩ u za (by rw[zc];omega)).mono ?_;rintro e Q ⟨rfl,q⟩;have v:=z.trans (q.mono z.size);refine⟨by rw[<-hy];rfl,v,?_,?_⟩;·rw[<-O];exact(v.cell (p:=(aj S 0)) j.lt).trans j.cell
   ·exact(nH (v.block S j.lt)).trans j.frozen
  have E:Hid (∀u,Below a.heap.size a u->uS l.heap.size (jO (S+1+1) (S+1) (S+1+1+1)) (λd a=>(Boxed a S 3 (Iq (I8 (d.map l4)))/\Below S W a)/\l.heap.size<=a.heap.size) (d++[x]) a .normal {tmps:=#[],defers:=[]} (u.setCell (aj S 0) (Iq (max M y)))):=λu hu=>by
   have zb:Boxed u S 3 (Iq (I8 (d.map l4))):=(hu.block S j.lt).trans j;have C:∀b,b≠S->b<a.heap.size->(u.setCell (aj S 0) (Iq (max M y))).heap[b]?=a.heap[b]?:=λb hb hl=>(bK u (aj S 0) _ b hb).trans (hu.block b hl);refine⟨⟨aF hu.size rn,λk o hk ho _=>?_⟩,⟨C _ dg dg,C _ dg dg,C _ dg dg⟩,⟨by rw[R.out];exact zb.set _,?_⟩,aF J (aF hu.size rn)⟩;·grind
   ·exact(F.trans (hu.mono dg)).setCell (p:=(aj S 0)) (ae _) _
  rw[O]at hc;rw[hy]at Y;have ze:prog.follows .mixedOrders=true:=ns;clear O hy j F;gi_wp2_with fail;gi_region_with_o(refine⟨trivial,(CallsIn.inRound k0 (callsIn_wide.2 (CO _ rd))).mono ?_⟩;rintro e wq ⟨rfl,bq,cq,fq⟩);all_goals(gi_wp2_with fail)
  all_goals exact E wq bq
 case done=>rintro D ys a hD rfl ⟨⟨j,F⟩,J⟩ I;have hc:=j.cell;gi_wp2;refine⟨rn,.inl ⟨_,_,rfl,run_takeDeferred I,?_⟩⟩;exact⟨_,results_tmp rfl _ _ _,rfl,by rw[hS];exact F.trans (belowK_b (w:=W) dg a D _ _ dg I rfl rfl)⟩
attribute[local go_sem] Oper.semAt_some
def cF(l:List (List UInt8)):List Value:=l.map λr=>.string ⟨r.toArray⟩
theorem kE l x:cF (l++[x])=cF l++[.string ⟨x.toArray⟩]:=by simp[cF]
def gC(t:List UInt8)(wrap w:Int):List (List UInt8):=if wrap=1 then(a_ (aG (ak t)) w).map (·.T)else(bj t).map λp=>fD (one (aG (ak p))) w
theorem og:∀  a   k  (b:k<a.length)  t   u,(bZ a[k])[t]?=some u->(fT a)[k*5+t]?=some u
 |[],k,b,_,_,_=>rd
 |x::a,0,_,t,u,h=>by grind[bZ,fT]
 |x::a,k+1,b,t,u,h=>by have d:(bZ x).length=5:=rfl;show(bZ x++fT a)[(k+1)*5+t]?=_;rw[NS dg,d,show(k+1)*5+t-5=k*5+t by omega];exact og a k rd t u h
theorem ym:(prog.info? 9).map (λi=>(i.zero,i.size,i.bytes))=some (some (.string ⟨#[]⟩),1,16):=ns
def QP(W W':World):Prop:=∀(j:Nat) (c:Array Value) (fz:Nat×Nat),W.heap[j]?=some (.cells c 226 fz)->W'.heap[j]?=some (.cells c 226 fz)
theorem MK{W:World}{d k}{v}{i}(h:W.ownsRow d 9 1 v k i){j}{c}{t}{b}(m:W.heap[j]?=some (.cells c t b))(n:t≠9):some j≠v.ownBlock:=by
 rcases h.2 with⟨rfl,_⟩|⟨g,cap,a,rfl,_,l,_⟩;·simp[Value.ownBlock]
 ·intro e;obtain rfl:j=g:=by simpa[Value.ownBlock]using e
  grind
theorem LM{W l}{o B k}{v m}{p}{i}(n:Boxed W B 113 v)(b:W.ownsRow o 9 1 v k p)(a:(W.alloc i).grownBy l v.ownBlock):QP W (l.setCell (aj B 0) m):=λj c q e=>by
 have h:=(aD.1 e).1;have d:j≠B:=by rintro rfl;rw[show W.heap[j]?=_ from n]at e;cases e
 rw[bK l (aj B 0) m j d];exact(a.block j (by rw[au];omega) (MK b e (by decide))).trans ((cK _ _ _ h).trans e)
theorem OC{W:World}{B}{v}{b}(h:W.ownsRow B 226 5 v b.length (fT b)):∃p c,v=.slice p b.length c/\(b.length=0\/∃g a,p=some (aj g 0)/\W.heap[g]?=some (.cells a 226 (0,0))/\∀k (d:k<b.length)  t  u,(bZ b[k])[t]?=some u->W.cell? (aj g (k*5+t))=some u):=by
 rcases h.2 with⟨rfl,l⟩|⟨g,cap,a,rfl,_,e,_⟩;·grind
 ·refine⟨some (aj g 0),cap,rfl,.inr ⟨g,a,rfl,e,λk d t u hu=>?_⟩⟩;have i:=h.cells (g:=g) rfl (k*5+t) _ (og b k d t u hu);have j:((aj g 0):Addr).add (k*5+t)=(aj g (k*5+t)):=by unfold Addr.add;split<;>simp_all
  grind
theorem vp(kd a0 a1 a2 a3 a4 a5 a6 a7 a9 b0 b1 up:Int)(tx:ByteArray)(kv:Value)(w:Int)(W:World)(ht:bN W)(hs:tx.size<=100000)(hw:0<=w/\w<=100000):
 Calls prog 65 #[fB kd a0 a1 a2 a3 a4 a5 a6 a7 1 a9 b0 b1 tx kv up,Iq w] W λe L=>∃v,e=.returned v/\L.ownsRow W.heap.size 9 1 v (gC tx.data.toList 1 w).length (cF (gC tx.data.toList 1 w))/\Below W.heap.size W L:=by
 obtain⟨i0,hi,zw,zx,zy⟩:=info_parts ym;obtain⟨S,hS⟩:=ad W.heap.size;obtain⟨d,h⟩:=ad (((W.alloc (.cells #[Iq kd,Iq a0,Iq a1,Iq a2,Iq a3,Iq a4,Iq a5,Iq a6,Iq a7,Iq 1,Iq a9,Iq b0,Iq b1,.string tx,kv,Iq up] 57)).alloc (.cells #[Iq w] 3)).alloc (.cells #[.slice none 0 0] 113));have q:Hid (Below W.heap.size W d):=by rw[<-h];exact((((Gr.refl W).alloc _).alloc _).alloc _).below
 have x:d.heap[S]?=some (.cells #[Iq kd,Iq a0,Iq a1,Iq a2,Iq a3,Iq a4,Iq a5,Iq a6,Iq a7,Iq 1,Iq a9,Iq b0,Iq b1,.string tx,kv,Iq up] 57 (0,0)):=by rw[<-h,<-hS,cK _ _ _ (by rw[au,au];omega),cK _ _ _ (by simp_all)];exact heap_alloc_new _ _
 have R:Boxed d (S+1) 3 (Iq w):=by rw[<-h,<-hS,<-World.size_alloc];exact(Boxed.new _ 3 (Iq w)).alloc _
 have y:Boxed d (S+1+1) 113 (.slice none 0 0):=by rw[<-h,<-hS,<-World.size_alloc,<-World.size_alloc];exact Boxed.new _ _ _
 have n9:d.cell? (aj S 9)=some (Iq 1):=by rw[Lib.cell_of_heap x];rfl
 have zA:d.cell? (aj S 13)=some (.string tx):=by rw[Lib.cell_of_heap x];rfl
 have w0:=R.cell;have LN:Hid (Calls prog 137 #[.string tx,Iq w] d λe L=>∃v,e=.returned v/\Hid (L.ownsRow d.heap.size 226 5 v (a_ (aG (ak tx.data.toList)) w).length (fT (a_ (aG (ak tx.data.toList)) w)))/\Below d.heap.size d L):=Fx tx w d (ht.below q) dg dg dg;have za:(a_ (aG (ak tx.data.toList)) w).length<=1000000:=by
  have h1:(a_ (aG (ak tx.data.toList)) w).length<=(aG (ak tx.data.toList)).length+1:=by
   unfold a_;split;·simp
   ·grind[dQ]
  have h2:=bu (ak tx.data.toList);have h3:=aX tx.data.toList;have h4:tx.data.toList.length=tx.size:=by rw[dZ];rfl
  omega
 have I:Hid (gC tx.data.toList 1 w=(a_ (aG (ak tx.data.toList)) w).map (·.T)):=if_pos rfl;rw[I.out,sD];obtain⟨m,Y⟩:=ad (a_ (aG (ak tx.data.toList)) w);rw[Y]at LN za⊢;obtain⟨n,hn⟩:=ad m.length;have HN:=qH hn;have zj:=qH y;have G:=qH<|y.lt;rw[hS];have HB3':Hid (Below S W d):=by rw[<-hS];exact q
 clear Y ht x R y I q;unfold fB;go_enter func65,ntmps65;go_wp2_with fail;clear h hS;refine LN.mono ?_;rintro e w2 ⟨v,rfl,HL,b2⟩;obtain⟨p,cp,rfl,X⟩:=OC HL.out;have zn:=qH X;have zg:=qH<|HB3'.trans (b2.mono (by have:=G.out;omega));have zk:Hid (Boxed w2 (S+1+1) 113 (.slice none 0 0)):=(b2.block _ G).trans zj;clear LN HL X b2 n9 zA w0;rw[hn]at za⊢;go_wp2;go_loopw[17] (λiv wr=>∃k:Nat,k<=n/\iv=Iq k/\Hid (Below S W wr)/\Hid (QP w2 wr)/\∃B,Hid (Boxed wr (S+1+1) 113 B)/\Hid (wr.ownsRow S 9 1 B k (cF ((m.map (·.T)).take k)))) (λiv _=>n-(intOf iv).toNat);case atStart=>exact⟨0,aR _,rfl,zg,λ_ _ _ e=>e,_,zk,eO _ _ _ _⟩
 case round=>
  obtain⟨k,hk,rfl,HB,HK,B,HX,HR⟩:=hrel;by_cases zv:k<n
  ·have Z:(k:Int)<(n:Int):=dg
   obtain⟨g,zt,rfl,hg,hc⟩:=zn.resolve_left dg;have zu:k<m.length:=by have:=HN.out;omega
   have D:Hid (cF ((m.map (·.T)).take (k+1))=cF ((m.map (·.T)).take k)++[.string ⟨m[k].T.toArray⟩]):=by show _=_;rw[gG rd,kE,List.getElem_map]
   have r:=qH<|λt u hu=>(bf (a:=(aj g (k*5+t))) ((HK g zt _ hg).trans hg.symm)).trans (hc k zu t u hu);obtain⟨⟨T,V,F,N,E⟩,hx⟩:=ad m[k];rw[hx]at r D;have c0:wr.cell? (aj g (k*5))=some (.string ⟨T.toArray⟩):=r 0 _ rfl;have c1:wr.cell? (aj g (k*5+1))=some (Iq V):=r 1 _ rfl;have c2:wr.cell? (aj g (k*5+2))=some (Iq F):=r 2 _ rfl;have c3:wr.cell? (aj g (k*5+3))=some (Iq N):=r 3 _ rfl;have c4:wr.cell? (aj g (k*5+4))=some (Iq E):=r 4 _ rfl;obtain⟨C,i⟩:=ad (wr.alloc (.cells #[.string ⟨T.toArray⟩,Iq V,Iq F,Iq N,Iq E] 226));have l:Boxed C (S+1+1) 113 B:=by rw[<-i];exact HX.alloc _
   have zc:C.ownsRow S 9 1 B k (cF ((m.map (·.T)).take k)):=by rw[<-i];exact pd HR _
   have Q:Below S W C:=by rw[<-i];exact HB.alloc (by have:=HX.lt;omega) _
   have U:QP w2 C:=by rw[<-i];exact λj c O e=>(cK _ _ _ (aD.1 (HK j c O e)).1).trans (HK j c O e)
   have l0:C.cell? (aj wr.heap.size 0)=some (.string ⟨T.toArray⟩):=by rw[<-i,Lib.cell_of_heap (heap_alloc_new _ _)];rfl
   have x5:=l.cell;have zz:S<=C.heap.size:=by have:=l.lt;omega
   have J:=qH l;have s:=qH zc;have zh:=qH Q;have zl:=qH U;clear hx r hc hg HK HB HR HX l zc Q U;go_wp2_with(at_builtin;refine wpList_append_own _ rfl _ _ 113 rfl S 9 i0 (.string ⟨#[]⟩) 1 16 underlying113 hi zw zx zy rfl (by decide) _ _ _ rfl (pd s _) _ 1 1 [.string ⟨T.toArray⟩] rfl rfl ?c1 ?c2 ?c3 ?c4 ?c5 ?_);(try case c1=>exact ol _ _ _);(try case c2=>first|exact rfl|(intro u hu;simp at hu;subst hu;rfl));case c3=>unfold maxLen;omega
   case c4=>omega
   case c5=>omega
   intro v' w6 b z _;obtain⟨g',o,rfl⟩:=ownsRow_succ b;obtain⟨A,ze,zb,_,P⟩:=J.appended (by decide) s zz dg b z;have zm:Hid (QP w2 (w6.setCell (aj (S+1+1) 0) (Sq g' (k+1) o))):=λj c O e=>LM J s z j c O (zl j c O e);have zr:=qH ze;have zo:=qH zb;have zi:Hid (Below S W (w6.setCell (aj (S+1+1) 0) (Sq g' (k+1) o))):=zh.trans P;have zB:=A.cell;have zC:=A.frozen;clear z b A ze zb P;go_wp2;go_roundw;case rel=>exact⟨k+1,zv,by go_num,zi,zm,_,zr,by rw[D.out];exact zo⟩
   grind[intOf]
  ·have Z:¬(k:Int)<(n:Int):=dg
   obtain rfl:k=n:=dg;have x0:=HX.cell;have zq:Hid (wr.ownsRow S 9 1 B k (cF (m.map (·.T)))):=by have:=HR.out;rw[eP rd]at this;exact this
   go_wp2;go_ret;exact⟨_,rfl,zq,HB⟩
theorem rp{W:World}{B b}{e}{size}{v}{n}{d}(h:W.ownsRow B e size v n d)(k:b<=B):W.ownsRow b e size v n d:=by
 refine⟨h.1,?_⟩;rcases h.2 with h|⟨g,cap,a,h1,i,j⟩;·grind
 ·exact .inr ⟨g,cap,a,h1,aF k i,j⟩
theorem vt{W u}{B}{e}{size}{v}{n}{d}(h:W.ownsRow B e size v n d)(k:Bt W u):u.ownsRow B e size v n d:=by
 refine⟨h.1,?_⟩;rcases h.2 with h|⟨g,cap,a,h1,i,b,j⟩;·grind
 ·exact .inr ⟨g,cap,a,h1,i,(k.block g (aD.1 b).1).trans b,j⟩
def wU(w:Int)(p:List UInt8):List UInt8:=fD (one (aG (ak p))) w
theorem xL(kd a0 a1 a2 a3 a4 a5 a6 a7 G a9 b0 b1 up:Int)(tx:ByteArray)(kv:Value)(w:Int)(W:World)(ht:bN W)(hs:tx.size<=100000)(hw:0<=w/\w<=100000)(h8:G≠1):
 Calls prog 65 #[fB kd a0 a1 a2 a3 a4 a5 a6 a7 G a9 b0 b1 tx kv up,Iq w] W λe j=>∃v,e=.returned v/\j.ownsRow W.heap.size 9 1 v (gC tx.data.toList G w).length (cF (gC tx.data.toList G w))/\Below W.heap.size W j:=by
 have zc:Hid (gC tx.data.toList G w=(bj tx.data.toList).map (wU w)):=if_neg h8;rw[zc.out];obtain⟨t,N⟩:=ad tx.data.toList;have zq:tx=⟨t.toArray⟩:=by rw[<-N]
 have zG:t.length<=100000:=by rw[<-N,dZ];exact hs
 rw[N];subst zq;clear N hs zc;have ze:prog.follows .mixedOrders=true:=ns;have e8:(G==1)=false:=by simpa using h8
 obtain⟨i0,hi,zu,zv,zw⟩:=info_parts ym;unfold fB;refine(callsIn_wide (n:=6)).1 ?_;refine callsIn_of_wp_marks func65 rfl trivial ?_ rfl;simp only[ntmps65,jh,dP,fP,Nat.reduceAdd,Nat.reduceSub,pf,ph,pi,pm,po,lT];gi_wp2_with fail;obtain⟨S,hS⟩:=ad W.heap.size;obtain⟨X1,h1⟩:=ad (W.alloc (.cells #[Iq kd,Iq a0,Iq a1,Iq a2,Iq a3,Iq a4,Iq a5,Iq a6,Iq a7,Iq G,Iq a9,Iq b0,Iq b1,.string ⟨t.toArray⟩,kv,Iq up] 57));have s1:X1.heap.size=S+1:=by rw[<-h1,au,hS]
 obtain⟨X2,R⟩:=ad (X1.alloc (.cells #[Iq w] 3));have s2:X2.heap.size=S+1+1:=by rw[<-R,au,s1]
 obtain⟨X3,h3⟩:=ad (X2.alloc (.cells #[.slice none 0 0] 113));have s3:X3.heap.size=S+1+1+1:=by rw[<-h3,au,s2]
 rw[h1,R,h3];refine⟨trivial,(callsIn_wide.2 (nA ⟨t.toArray⟩ _)).mono ?_⟩;rintro e w' ⟨rfl,rfl⟩;obtain⟨X4,T⟩:=ad (X3.alloc (.cells #[.string ⟨t.toArray⟩] 9));have s4:X4.heap.size=S+1+1+1+1:=by rw[<-T,au,s3]
 obtain⟨X5,Q⟩:=ad (X4.alloc (.cells #[.string ⟨#[10]⟩] 9));have s5:X5.heap.size=S+1+1+1+1+1:=by rw[<-Q,au,s4]
 obtain⟨r,J⟩:=ad (X5.alloc (.cells #[Iq 0] 3));have s6:r.heap.size=S+1+1+1+1+1+1:=by rw[<-J,au,s5]
 have bW:Boxed r (S+1) 3 (Iq w):=by
  have q:Boxed X2 (S+1) 3 (Iq w):=by rw[<-R,<-s1];exact Boxed.new _ _ _
  rw[<-J,<-Q,<-T,<-h3];exact(((q.alloc _).alloc _).alloc _).alloc _
 have bL:Boxed r (S+1+1) 113 (.slice none 0 0):=by
  have q:Boxed X3 (S+1+1) 113 (.slice none 0 0):=by rw[<-h3,<-s2];exact Boxed.new _ _ _
  rw[<-J,<-Q,<-T];exact((q.alloc _).alloc _).alloc _
 have bT:Boxed r (S+1+1+1) 9 (.string ⟨t.toArray⟩):=by
  have q:Boxed X4 (S+1+1+1) 9 (.string ⟨t.toArray⟩):=by rw[<-T,<-s3];exact Boxed.new _ _ _
  rw[<-J,<-Q];exact(q.alloc _).alloc _
 have bP:Boxed r (S+1+1+1+1) 9 (.string ⟨#[10]⟩):=by
  have q:Boxed X5 (S+1+1+1+1) 9 (.string ⟨#[10]⟩):=by rw[<-Q,<-s4];exact Boxed.new _ _ _
  rw[<-J];exact q.alloc _
 have bV:Boxed r (S+1+1+1+1+1) 3 (Iq 0):=by rw[<-J,<-s5];exact Boxed.new _ _ _
 have zl:Below S W r:=by rw[<-J,<-Q,<-T,<-h3,<-R,<-h1,<-hS];exact((((((Gr.refl W).alloc _).alloc _).alloc _).alloc _).alloc _).alloc _|>.below
 rw[T,Q,J,s3,hS];have zF:bN r:=ht.below rd;clear h1 R h3 T Q J s1 s2 s3 s4 s5;gi_wp2;refine lN rfl dg (gf:=228) (lb:=#[Pq (S+1+1+1+1),Pq (S+1+1+1),Pq (S+1+1+1+1+1)]) rfl trivial (enters_of func228 ns rfl)
  (ny 5 dg (S+1+1+1+1) (S+1+1+1) (S+1+1+1+1+1) t dg r dg dg bP bT bV) dg jO.trans (tQ dg dg dg) (af _ _) (λ_=>rfl)
  (λa j=>((∃v,Boxed j (S+1+1) 113 v/\j.ownsRow r.heap.size 9 1 v a.length (cF (a.map (wU w)))/\True)/\Boxed j (S+1) 3 (Iq w))/\Below S W j/\r.heap.size<=j.heap.size)
  (OwnFrom.and (OwnFrom.and (Own.from (holdsRow_own r.heap.size (S+1+1) 113 9 1 (λa:List (List UInt8)=>a.length) (λa=>cF (a.map (wU w))) (λ_ _=>True)) _) (Own.from (boxed_own _ _ _) _)) (OwnFrom.and (ownFrom_below dg dg) (λ_ _ _ _ h X _=>aF h X.size)))
  (λa A B row ⟨⟨⟨v,q1,q2,_⟩,q3⟩,q4,q5⟩ X hr=>by
   have Y:∀b,b≠S+1+1+1->some b≠row:=λb hb e=>rd;refine⟨⟨⟨v,q1.kept X (Y _ dg),q2.kept X ?_,trivial⟩,q3.kept X (Y _ dg)⟩,q4.grown X dg (λq hq=>rd),aF q5 X.size⟩;rcases q2.2 with⟨rfl,_⟩|⟨g,cap,zy,rfl,zB,_⟩;·exact .inl rfl
   ·exact .inr (λe=>Y g dg e))
  ⟨⟨⟨_,bL,eO _ _ _ _,trivial⟩,bW⟩,zl,ae _⟩
  (λx a' j=>a'={tmps:=#[.agg #[Iq kd,Iq a0,Iq a1,Iq a2,Iq a3,Iq a4,Iq a5,Iq a6,Iq a7,Iq G,Iq a9,Iq b0,Iq b1,.string ⟨t.toArray⟩,kv,Iq up],Iq w,Pq S,Pq (S+1),.slice none 0 0,Pq (S+1+1),undef,undef,.string ⟨x.toArray⟩,.pointer (some (aj S 9)),Iq G,.bool false,undef,undef,undef,undef,undef,undef,undef,undef,undef,undef,undef,undef,undef,undef,undef,undef,.pointer (some (aj S 13)),.string ⟨t.toArray⟩,.func (.func 228) #[] #[Pq (S+1+1+1+1),Pq (S+1+1+1),Pq (S+1+1+1+1+1)],.string ⟨x.toArray⟩,undef,undef,undef,undef,undef,undef,undef],defers:=[]})
  (λ_ _ _ _ _ _ hs _ _=>hs)
  ?assign ?body ?done;case assign=>rintro k0 a x j K hI d;dsimp only[Gg]at d⊢;gi_wp2;exact d _ _ (KeepsFrom.refl _ _) ⟨rfl,rfl,rfl⟩ hI rfl
 case body=>
  rintro k0 a x a' j ⟨⟨⟨v,hv,s,_⟩,L⟩,hB,zA⟩ rfl zC zH;have hc:=hv.cell;have wc:=L.cell;have zt:(⟨x.toArray⟩:ByteArray).size=x.length:=by simp[ByteArray.size]
  obtain⟨y,hy⟩:=ad (wU w x);have HV:=qH hv;have zb:=qH s;have C:=qH L;have zk:=qH hB;have CU:Hid (∀u,(u=j\/u=j.drew)->Calls prog 139 #[.string ⟨x.toArray⟩,Iq w] u λe u'=>e=.returned (.string ⟨y.toArray⟩)/\Hid (Below j.heap.size j u')):=λu hu=>by
   have V:Below j.heap.size j u:=by
    rcases hu with rfl|rfl;·exact af _ _
    ·exact(af _ _).drew
   refine(Lh ⟨x.toArray⟩ w u ((ht.below (w':=j) rd).below V) (by rw[zt];omega) dg dg).mono ?_;rintro e u' ⟨rfl,q⟩;exact⟨by rw[<-hy];rfl,V.trans (q.mono V.size)⟩
  have za:Hid (∀u F z,Below j.heap.size j u->z.ownsRow r.heap.size 9 1 F (a.length+1) (cF (a.map (wU w))++[.string ⟨y.toArray⟩])->(u.alloc (.cells #[.string ⟨y.toArray⟩] 9)).grownBy z v.ownBlock->(z.cell? (aj (S+1+1) 0)=some v/\z.frozen? (aj (S+1+1) 0)=false/\z.cell? (aj (S+1) 0)=some (Iq w))/\uS r.heap.size (jO (S+1+1+1+1) (S+1+1+1) (S+1+1+1+1+1)) (λa j=>((∃v,Boxed j (S+1+1) 113 v/\j.ownsRow r.heap.size 9 1 v a.length (cF (a.map (wU w)))/\True)/\Boxed j (S+1) 3 (Iq w))/\Below S W j/\r.heap.size<=j.heap.size) (a++[x]) j .normal {tmps:=#[],defers:=[]} (z.setCell (aj (S+1+1) 0) F)):=λu F z hu l E=>by
   have zh:Boxed u (S+1+1) 113 v:=(hu.block _ HV.lt).trans HV;have zg:u.ownsRow r.heap.size 9 1 v a.length (cF (a.map (wU w))):=vt zb hu;obtain⟨Z,zr,zD,zn,zm⟩:=zh.appended (by decide) (rp zg (by omega:S<=_)) (by have:=zh.lt;omega) dg (rp l (by omega:S<=_)) E;have zE:=l.kept (grownBy_setCell' z _ F) (.inr (Z.not_row (by decide) l).symm);have zo:=λq hq=>(zg.lt q hq).1;have O:∀b,b≠S+1+1->b<r.heap.size->(z.setCell (aj (S+1+1) 0) F).heap[b]?=j.heap[b]?:=λb hb hl=>by rw[bK z (aj (S+1+1) 0) F b hb,E.block b (by rw[au];have:=hu.size;omega) (λe=>rd),cK _ _ _ (by have:=hu.size;omega)];exact hu.block b dg
   have zi:Boxed (z.setCell (aj (S+1+1) 0) F) (S+1) 3 (Iq w):=(O (S+1) dg dg).trans C;refine⟨⟨Z.cell,Z.frozen,?_⟩,?_,⟨O _ dg dg,O _ dg dg,O _ dg dg⟩,⟨⟨F,zr,?_,trivial⟩,zi⟩,zk.trans ((hu.mono dg).trans zm),?_⟩;·have:=(bK z (aj (S+1+1) 0) F (S+1) rd).symm.trans zi;exact Boxed.cell this
   ·exact(KeepsOthers.trans ⟨hu.size,λk o ho _=>(hu.block k (aD.1 ho).1).trans ho⟩ zn).from _
   ·grind[kE]
   ·have h1:=hu.size;have R:=E.size;rw[au]at R;simp[World.setCell];omega
  clear hv s L hB;gi_wp2_with fail;refine vA (S:=λu=>u.cell? (aj (S+1) 0)=some (Iq w)) ns (by rintro⟨_,_,q⟩;exact q) ze wc (λzz=>?_);refine wpAnyH_take (i:=1) (v:=?v1) rfl ns ns ns (λ_ _ _ h=>h) (Or.inl ⟨by rfl,?hy⟩) dg ?_;case hy=>intro w U;(try dsimp only at U);go_simp<;>with_reducible rfl
  try simp only[Act.put]
  refine wpAnyH_take (i:=2) (v:=?v2) rfl ns ns ns (λ_ _ _ h=>h) (Or.inl ⟨by rfl,?hy⟩) dg ?_;case hy=>intro w U;(try dsimp only at U);go_simp<;>with_reducible rfl
  try simp only[Act.put]
  refine wpAnyH_ready (rs:=[0,3]) ns rn ?_;refine AllReadyH.cons rfl (λm d=>?_) (AllReadyH.cons rfl (λm d=>?_) AllReadyH.nil);focus go_simp;refine d.out _ _ wc (λ_=>?_);clear d m;refine wpAnyH_ready (rs:=[3]) ns rn ?_;refine AllReadyH.cons rfl (λm d=>?_) AllReadyH.nil;go_simp;go_wp2_with(go_at_call 139;refine ag (CU _ rd) ?_;rintro e u ⟨rfl,P⟩);have wu:=(P.cell (p:=(aj (S+1) 0)) C.lt).trans C.cell;have lu:=(P.cell (p:=(aj (S+1+1) 0)) HV.lt).trans HV.cell;refine d.out _ _ wu (λ_=>?_);clear d m;refine wpAnyH_ready (rs:=[4]) ns rn ?_;refine AllReadyH.cons rfl (λm d=>?_) AllReadyH.nil;go_simp;have wb:(u.alloc (.cells #[.string ⟨y.toArray⟩] 9)).cell? (aj (S+1) 0)=some (Iq w):=(World.cell?_alloc_some u _ _ rd).trans wu;have lb:(u.alloc (.cells #[.string ⟨y.toArray⟩] 9)).cell? (aj (S+1+1) 0)=some v:=(World.cell?_alloc_some u _ _ rd).trans lu;refine d.out _ _ wb (λ_=>?_);clear d m
  rotate_left;focus
   go_simp;go_wp2_with(go_at_call 139;refine ag (CU _ rd) ?_;rintro e u ⟨rfl,P⟩);have wu:=(P.cell (p:=(aj (S+1) 0)) C.lt).trans C.cell;have lu:=(P.cell (p:=(aj (S+1+1) 0)) HV.lt).trans HV.cell;refine d.out _ _ wu (λ_=>?_);clear d m;refine wpAnyH_ready (rs:=[0,4]) ns rn ?_;refine AllReadyH.cons rfl (λm d=>?_) (AllReadyH.cons rfl (λm d=>?_) AllReadyH.nil);focus go_simp;refine d.out _ _ wu (λ_=>?_);clear d m;refine wpAnyH_ready (rs:=[4]) ns rn ?_;refine AllReadyH.cons rfl (λm d=>?_) AllReadyH.nil;go_simp;have wb:(u.alloc (.cells #[.string ⟨y.toArray⟩] 9)).cell? (aj (S+1) 0)=some (Iq w):=(World.cell?_alloc_some u _ _ rd).trans wu;have lb:(u.alloc (.cells #[.string ⟨y.toArray⟩] 9)).cell? (aj (S+1+1) 0)=some v:=(World.cell?_alloc_some u _ _ rd).trans lu;refine d.out _ _ wb (λ_=>?_);clear d m
   rotate_left;focus go_simp;have wb:(u.alloc (.cells #[.string ⟨y.toArray⟩] 9)).cell? (aj (S+1) 0)=some (Iq w):=(World.cell?_alloc_some u _ _ rd).trans wu;have lb:(u.alloc (.cells #[.string ⟨y.toArray⟩] 9)).cell? (aj (S+1+1) 0)=some v:=(World.cell?_alloc_some u _ _ rd).trans lu;refine d.out _ _ wb (λ_=>?_);clear d m;refine wpAnyH_ready (rs:=[0]) ns rn ?_;refine AllReadyH.cons rfl (λm d=>?_) AllReadyH.nil;go_simp;refine d.out _ _ wb (λ_=>?_);clear d m
  all_goals refine wpAnyH_ready (rs:=[5]) ns rn ?_;refine AllReadyH.cons rfl (λm d=>?_) AllReadyH.nil;refine jE rfl (.tmp 32) (.tmp 36) 113 rfl r.heap.size 9 i0 (.string ⟨#[]⟩) 1 16 underlying113 hi zu zv zw rfl (by decide) v a.length (cF (a.map (wU w))) (by simp[Act.eval]) (pd (vt zb P) _) _ 1 1 [.string ⟨y.toArray⟩] (by simp[Act.eval]) rfl (ol _ _ _) (by intro u hu;simp at hu;subst hu;rfl) (by unfold maxLen;omega) dg (by rw[au];have:=P.size;omega) ?_;intro F z l E;obtain⟨g',zx,rfl⟩:=ownsRow_succ l;obtain⟨⟨f1,f2,f3⟩,f4⟩:=za u _ z P l E;refine d.out _ _ f3 (λ_=>?_);clear d m;refine wpAnyH_ready (rs:=[6]) ns rn ?_;refine AllReadyH.cons rfl (λm d=>?_) AllReadyH.nil;go_simp;refine d.out _ _ ((World.cell?_setCell_far _ _ _ _ rd).trans f3) (λ_=>?_);clear d m;refine wpAnyH_done ns ?_ _;exact f4
 case done=>rintro D ys j hD rfl ⟨⟨⟨v,hv,s,_⟩,L⟩,hB,_⟩ d;have hc:=hv.cell;gi_wp2;refine⟨rn,.inl ⟨_,_,rfl,run_takeDeferred d,?_⟩⟩;refine⟨_,results_tmp rfl _ _ _,v,rfl,?_,by rw[hS];exact hB.trans (belowK_b (w:=W) dg j D _ _ dg d rfl rfl)⟩;rw[hS,sD];exact ownsRow_putObj (rp s dg) _ d rfl
end
theorem Bp l a n:(aB ((l.drop a).take n)).length<=(aB l).length:=by
 have h1:aB l=aB (l.take a)++aB (l.drop a):=by rw[<-fg,fy]
 have b:aB (l.drop a)=aB ((l.drop a).take n)++aB ((l.drop a).drop n):=by rw[<-fg,fy]
 rw[h1,b,aU,aU];omega
theorem BD l w B(i:(aB l).length<=B)(e:w.toNat<=B):∀  f a,∀x∈gW f l w a,x.T.length<=B:=by
 have d:∀a,(cu l w a).T.length<=B:=λa=>by
  have:=Bp l a (aM (l.drop a) w).n;unfold cu;dsimp only;split;·simpa using e
  ·dsimp only;omega
 intro f;induction f with
 |zero=>intro a x b;cases b
 |succ f h=>
  intro a x b;simp only[gW]at b;split at b;·rw[lS.1 b];exact d a
  ·rcases gE.1 b with rfl|b;·exact d a
   ·exact h _ x b
theorem BP l:(aB (one l)).length=(aB l).length:=by
 induction l with
 |nil=>rfl
 |cons c l a=>grind[aB,one,eq]
theorem ry:∀  t,∀p∈bj t,p.length<=t.length
 |[],p,hp=>by grind[bj]
 |b::t,p,hp=>by have a:=ry t;grind[bj]
theorem yZ t a w(i:t.length<=100000)(j:w<=100000):∀s∈gC t a w,s.length<=3000000:=by
 intro s b;unfold gC at b;split at b
 ·obtain⟨x,d,rfl⟩:=jL.1 b;have e:=lF t;unfold a_ at d;split at d;·cases d
  ·exact BD _ w 3000000 dg dg _ _ x d
 ·obtain⟨p,hp,rfl⟩:=jL.1 b;have h:=ry t p hp;grind[lF,BP,aG,ak,fD,eu,one,cR]
theorem wE T c W how:(iJ T c W how).length<=T.length+100000+c.natAbs:=by grind[iJ,uL]
section
variable(W H:Nat) (f g bd cx cy ca cb:Int)
def txK(x w al:Int):List (List UInt8)->Int->(Nat->Nat->Ce)->Nat->Nat->Ce
 |[],_,c=>c
 |s::r,y,c=>txK x w al r (y+1) (wrL W H f g bd cx cy ca cb x y (iJ s (ai (aG (ak s))) w al) c)
theorem si x w a:∀  l   s   y   c,txK W H f g bd cx cy ca cb x w a (l++[s]) y c=wrL W H f g bd cx cy ca cb x (y+l.length) (iJ s (ai (aG (ak s))) w a) (txK W H f g bd cx cy ca cb x w a l y c)
 |[],s,y,c=>by show wrL W H f g bd cx cy ca cb x y _ _=wrL W H f g bd cx cy ca cb x (y+0) _ _;rw[Aw];rfl
 |p::l,s,y,c=>by show txK W H f g bd cx cy ca cb x w a (l++[s]) (y+1) _=_;rw[si x w a l s,show(y+((p::l).length:Int))=y+1+l.length by simp;omega];rfl
theorem sd{P:(Nat->Nat->Ce)->Prop}x w a:∀  l   y   c,(∀y s c,P c->P (wrL W H f g bd cx cy ca cb x y s c))->P c->P (txK W H f g bd cx cy ca cb x w a l y c)
 |[],_,_,_,h=>h
 |s::r,y,c,b,h=>sd x w a r _ _ b (b _ _ _ h)
end
theorem xK q b d h i j k l m a n o p up tx r w W(x:bN W)(u:tx.size<=100000)(y:0<=w/\w<=100000):
 Cw 65 #[fB q b d h i j k l m a n o p tx r up,Iq w] W λe s=>∃v,e=Rw v/\s.ownsRow W.heap.size 9 1 v (gC tx.data.toList a w).length (cF (gC tx.data.toList a w))/\Bt W s:=by
 by_cases t:a=1;·subst t;exact vp q b d h i j k l m n o p up tx r w W x u y
 ·exact xL q b d h i j k l m a n o p up tx r w W x u y t
theorem DS{W:World}{B}{v}{a}(h:W.ownsRow B 9 1 v a.length (cF a)):∃p c,v=.slice p a.length c/\a.length<=c/\(a.length=0\/∃g,p=some (aj g 0)/\B<=g/\g<W.heap.size/\∀k (l:k<a.length),W.cell? (aj g k)=some (.string ⟨a[k].toArray⟩)):=by
 rcases h.2 with⟨rfl,b⟩|⟨g,cap,d,rfl,e,j,i,_⟩;·exact⟨none,0,by rw[b],dg,.inl b⟩
 ·refine⟨some (aj g 0),cap,rfl,i,.inr ⟨g,rfl,e,(aD.1 j).1,λk l=>?_⟩⟩;have m:=h.cells (g:=g) rfl k (.string ⟨a[k].toArray⟩) (by grind[cF]);have n:((aj g 0):Addr).add k=(aj g k):=by unfold Addr.add;split<;>simp_all
  grind
section
variable{K M cap W H:Nat} {c:Nat->Nat->Ce}
theorem s_(U0 E:World)(h:CS 91 73 E K M cap W H c)(hW:1<=W/\W<=400)(hH:1<=H/\H<=400)(hp:PAll W H c)(ht:bN U0)(hU:Bt U0 E)(hM:U0.heap.size<=M)(f g bd cx cy ca cb:Int)(R T U V X Y Z a6 b t a9 b0 b1 up:Int)(tx:ByteArray)(kv:Value)(x y w hh:Int)(hs:tx.size<=100000)(hx:-100000000000<=x/\x<=100000000000)(hy:-100000000000<=y/\y<=100000000000)(hw:0<=w/\w<=100000)(zN:0<=hh/\hh<=100000)(zw:-1000000000000<=cy/\cy<=1000000000000)(zu:-1000000000000<=cb/\cb<=1000000000000):
 Cw 32 #[Gp K f g bd cx cy ca cb,fB R T U V X Y Z a6 b t a9 b0 b1 tx kv up,rv x y w hh] E λe w'=>e=Rw (.tuple #[])/\Cv 73 w' M W H (txK W H f g bd cx cy ca cb x w b ((gC tx.data.toList t w).take hh.toNat) y c)/\bp M E w':=by
 have zJ:prog.follows .mixedOrders=true:=ns;have zj:=h.cv.lt;obtain⟨A,hA⟩:=ad E.heap.size;obtain⟨l,z⟩:=ad (((E.alloc (.cells #[Pq K,Iq f,Iq g,Iq bd,Iq cx,Iq cy,Iq ca,Iq cb] 54)).alloc (.cells #[Iq R,Iq T,Iq U,Iq V,Iq X,Iq Y,Iq Z,Iq a6,Iq b,Iq t,Iq a9,Iq b0,Iq b1,.string tx,kv,Iq up] 57)).alloc (.cells #[Iq x,Iq y,Iq w,Iq hh] 52));have r:Hid (Bt E l):=by rw[<-z];exact((((Gr.refl E).alloc _).alloc _).alloc _).below
 have zk:l.heap[A]?=some (.cells #[Pq K,Iq f,Iq g,Iq bd,Iq cx,Iq cy,Iq ca,Iq cb] 54 (0,0)):=by rw[<-z,<-hA,cK _ _ _ (by rw[au,au];omega),cK _ _ _ (by simp_all)];exact heap_alloc_new _ _
 have N:l.heap[A+1]?=some (.cells #[Iq R,Iq T,Iq U,Iq V,Iq X,Iq Y,Iq Z,Iq a6,Iq b,Iq t,Iq a9,Iq b0,Iq b1,.string tx,kv,Iq up] 57 (0,0)):=by rw[<-z,<-hA,cK _ _ _ (by simp_all),<-World.size_alloc];exact heap_alloc_new _ _
 have O:l.heap[A+1+1]?=some (.cells #[Iq x,Iq y,Iq w,Iq hh] 52 (0,0)):=by rw[<-z,<-hA,<-World.size_alloc,<-World.size_alloc];exact heap_alloc_new _ _
 have G:=qH<|(aD.1 O).1;have zb:Hid (M<A):=by rw[<-hA];exact zj
 have HS:Hid (∀u,bp M l u->u.cell? (aj A 0)=some (Pq K)/\u.cell? (aj A 1)=some (Iq f)/\u.cell? (aj A 2)=some (Iq g)/\u.cell? (aj A 3)=some (Iq bd)/\u.cell? (aj A 4)=some (Iq cx)/\u.cell? (aj A 5)=some (Iq cy)/\u.cell? (aj A 6)=some (Iq ca)/\u.cell? (aj A 7)=some (Iq cb)/\u.cell? (aj (A+1+1) 0)=some (Iq x)/\u.cell? (aj (A+1+1) 1)=some (Iq y)/\u.cell? (aj (A+1+1) 2)=some (Iq w)/\u.cell? (aj (A+1+1) 3)=some (Iq hh)/\u.cell? (aj (A+1) 8)=some (Iq b)):=λu hu=>by
  have e1:=(hu.block A rd dg).trans zk;have e2:=(hu.block (A+1) rd dg).trans N;have e3:=(hu.block (A+1+1) G dg).trans O;refine⟨?_,?_,?_,?_,?_,?_,?_,?_,?_,?_,?_,?_,?_⟩;all_goals first
   |(rw[Lib.cell_of_heap e1];rfl)
   |(rw[Lib.cell_of_heap e2];rfl)
   |(rw[Lib.cell_of_heap e3];rfl)
 have i:Hid (∀(k:Nat) v,(#[Iq R,Iq T,Iq U,Iq V,Iq X,Iq Y,Iq Z,Iq a6,Iq b,Iq t,Iq a9,Iq b0,Iq b1,.string tx,kv,Iq up]:Array Value)[k]?=some v->l.cell? (aj (A+1) k)=some v):=λk v hv=>by rw[Lib.cell_of_heap N];exact hv
 obtain⟨z0,z1,z2,z3,z4,z5,z6,z7,r0,r1,r2,r3,_⟩:=HS l (bp.refl _ _);have n0:l.cell? (aj (A+1) 0)=some (Iq R):=i 0 _ rfl;have n1:=i 1 _ rfl;have n2:=i 2 _ rfl;have n3:=i 3 _ rfl;have n4:=i 4 _ rfl;have n5:=i 5 _ rfl;have n6:=i 6 _ rfl;have n7:=i 7 _ rfl;have n8:=i 8 _ rfl;have n9:=i 9 _ rfl;have zC:=i 10 _ rfl;have zD:=i 11 _ rfl;have zE:=i 12 _ rfl;have zF:=i 13 _ rfl;have zG:=i 14 _ rfl;have zH:=i 15 _ rfl;have I:=hU.trans (r.mono hU.size);have zi:=qH I;have HT:=qH ht;have j:=qH h;have HP:=qH hp;have LO:Hid (Cw 65 #[fB R T U V X Y Z a6 b t a9 b0 b1 tx kv up,Iq w] l λe W'=>∃v,e=Rw v/\Hid (W'.ownsRow l.heap.size 9 1 v (gC tx.data.toList t w).length (cF (gC tx.data.toList t w)))/\Bt l W'):=xK R T U V X Y Z a6 b t a9 b0 b1 up tx kv w l (ht.below I) hs hw;have zg:Hid (∀s∈gC tx.data.toList t w,s.length<=3000000):=yZ _ _ _ (by rw[dZ];exact hs) hw.2;obtain⟨o,zm⟩:=ad (gC tx.data.toList t w);rw[zm]at LO zg⊢;obtain⟨m,hm⟩:=ad (min o.length hh.toNat);have zQ:min (o.length:Int) hh=(m:Int):=dg
 have zO:m<=o.length:=dg;have zq:Hid (o.take hh.toNat=o.take m):=by show _=_;rw[<-hm,List.take_eq_take_iff];omega
 rw[zq.out];clear zm hm ht hU I h hp zk N O;unfold Gp rv;unfold fB at LO⊢;go_enter func32,ntmps32;go_wp2_with fail;clear z hA;refine LO.mono ?_;rintro e w2 ⟨v,rfl,HL,b2⟩;obtain⟨p,cp,rfl,zL,zl⟩:=DS HL.out;have zo:=qH zl;have d:Hid (bp M l w2):=bp.below b2;obtain⟨y0,y1,y2,y3,y4,y5,y6,y7,q0,q1,q2,q3,q4⟩:=HS w2 d;have zr:=qH<|j.cv.keep ((b2.block M (by have:=zb.out;have:=G.out;omega)).trans (r.block M zj));clear LO HL zl b2 z0 z1 z2 z3 z4 z5 z6 z7 r0 r1 r2 r3 n0 n1 n2 n3 n4 n5 n6 n7 n8 n9 zC zD zE zF zG zH i;have zP:m<=cp:=dg
 go_wp2;go_loopw[21] (λiv wr=>∃k:Nat,k<=m/\iv=Iq k/\Hid (Cv 73 wr M W H (txK W H f g bd cx cy ca cb x w b (o.take k) y c))/\Hid (bp M w2 wr)) (λiv _=>m-(intOf iv).toNat);case atStart=>exact⟨0,aR _,rfl,zr,bp.refl _ _⟩
 case round=>
  obtain⟨k,hk,rfl,HV,S⟩:=hrel;by_cases zz:k<m
  ·have zn:(k:Int)<(m:Int):=dg
   obtain⟨gb,rfl,zM,zx,hg⟩:=zo.resolve_left dg;have L:k<o.length:=dg;obtain⟨s,C⟩:=ad o[k];have zS:s.length<=3000000:=by rw[<-C];exact zg _ (iE L)
   obtain⟨D,B⟩:=ad (iJ s (ai (aG (ak s))) w b);have zB:=bB _ (cE (ak s)) (aG (ak s)).length;rw[io]at zB;have zK:=bu (ak s);have zR:=aX s;have zI:D.length<=100000000:=by rw[<-B];have:=wE s (ai (aG (ak s))) w b;omega
   have c0:wr.cell? (aj gb k)=some (.string ⟨s.toArray⟩):=by rw[<-C];exact(bf (a:=(aj gb k)) (S.block gb zx (by have:=zb.out;have:=G.out;omega))).trans (hg k L)
   have zc:Hid (txK W H f g bd cx cy ca cb x w b (o.take (k+1)) y c=wrL W H f g bd cx cy ca cb x (y+k) D (txK W H f g bd cx cy ca cb x w b (o.take k) y c)):=by show _=_;rw[gG L,si,C,B,b_,Eh dg]
   have F:Hid (∀u,bp M l u->bN u):=λu hu=>HT.below (hu.low hM (aF zi.size (ae _)) zi);have ze:Hid (s.toArray.size=s.length/\D.toArray.size=D.length):=⟨rn,rn⟩;have AL:Hid (∀u,(u=wr\/u=wr.drew)->Cw 66 #[.string ⟨s.toArray⟩,Iq w,Iq b] u λe u'=>e=Rw (.string ⟨D.toArray⟩)/\Hid (Bt wr u')):=λu hu=>by
    have J:Bt wr u:=by
     rcases hu with rfl|rfl;·exact af _ _
     ·exact(af _ _).drew
    refine(Er ⟨s.toArray⟩ w b u (F u ((d.trans S).trans (bp.below J))) (by show s.toArray.size<=_;rw[ze.1];omega) dg dg).mono ?_;rintro e u' ⟨rfl,q⟩;exact⟨by rw[<-B],J.trans (q.mono J.size)⟩
   have WR:Hid (∀u,Bt wr u->Cw 64 #[.agg #[Pq K,Iq f,Iq g,Iq bd,Iq cx,Iq cy,Iq ca,Iq cb],Iq x,Iq (y+k),.string ⟨D.toArray⟩] u λe u'=>e=Rw (.tuple #[])/\Hid (Cv 73 u' M W H (txK W H f g bd cx cy ca cb x w b (o.take (k+1)) y c))/\Hid (bp M w2 u')):=λu hu=>by have Q:bp M w2 u:=S.trans (bp.below hu);have zy:=((d.trans Q).block K (zz007 j.klt r.size) j.ne).trans (r.block K j.klt);have zv:CS 91 73 u K M cap W H (txK W H f g bd cx cy ca cb x w b (o.take k) y c):=⟨zy.trans j.kb,HV.keep (hu.block M HV.lt),j.ne,j.hc⟩;have zA:PAll W H (txK W H f g bd cx cy ca cb x w b (o.take k) y c):=sd W H f g bd cx cy ca cb (P:=PAll W H) x w b _ y c (λy s c hc=>hc.wrL hW hH _ _ _ _ _ _ _ _ _ _) HP;refine(uq u zv hW hH zA (F u (d.trans Q)) x (y+k) f g bd cx cy ca cb ⟨D.toArray⟩ (by show D.toArray.size<=_;rw[ze.2];omega) dg zw zu).mono ?_;rintro e u' ⟨rfl,q1,q2⟩;exact⟨rfl,by rw[zc.out];exact q1,Q.trans q2⟩
   obtain⟨x0,x1,x2,x3,x4,x5,x6,x7,t0,t1,t2,t3,t4⟩:=HS wr (d.trans S);have zT:IntKind.i64.wrap (y+(k:Int))=y+k:=IntWalk.i64_in _ dg;clear hg C B zc HV F y0 y1 y2 y3 y4 y5 y6 y7 q0 q1 q2 q3 q4;go_wp2_with fail;go_region_held(λn=>n.cell? (aj A 0)=some (Pq K)/\n.cell? (aj A 1)=some (Iq f)/\n.cell? (aj A 2)=some (Iq g)/\n.cell? (aj A 3)=some (Iq bd)/\n.cell? (aj A 4)=some (Iq cx)/\n.cell? (aj A 5)=some (Iq cy)/\n.cell? (aj A 6)=some (Iq ca)/\n.cell? (aj A 7)=some (Iq cb)/\n.cell? (aj (A+1+1) 0)=some (Iq x)/\n.cell? (aj (A+1+1) 1)=some (Iq y)/\n.cell? (aj (A+1+1) 2)=some (Iq w)/\n.cell? (aj (A+1+1) 3)=some (Iq hh)/\n.cell? (aj (A+1) 8)=some (Iq b)) (go_keep) (first
    |(go_at_call 66;refine ag (AL _ (by first|exact .inl rfl|exact .inr rfl)) ?_;rintro e u1 ⟨rfl,zh⟩;obtain⟨d0,d1,d2,d3,d4,d5,d6,d7,e0,e1,e2,e3,e4⟩:=HS u1 ((d.trans S).trans (bp.below zh)))
    |(go_at_call 64;refine ag (WR _ zh) ?_;rintro e u2 ⟨rfl,zt,za⟩;obtain⟨i0,i1,i2,i3,i4,i5,i6,i7,j0,j1,j2,j3,j4⟩:=HS u2 (d.trans za)));all_goals
    go_wp2;go_roundw;case rel=>exact⟨k+1,zz,by go_num,zt,za⟩
    case measure=>simp[intOf];omega
  ·have zn:¬(k:Int)<(m:Int):=dg
   obtain rfl:k=m:=dg;go_wp2;go_end0;exact⟨rfl,HV,(bp.below r).trans (d.trans S)⟩
end
def pnF(W H:Nat)(f g bd cx cy ca cb kd a6 a7 a8 b0:Int)(t:List UInt8)(x y w hh:Int)(c:Nat->Nat->Ce):Nat->Nat->Ce:=
 if kd=3/\a6=1/\2<=w/\2<=hh then bdF W H f g bd cx cy ca cb x y w hh (if 0<b0 then ir W H c x y w hh f g bd cx cy ca cb else c)
 else if kd=5/\1<=w then txK W H f g bd cx cy ca cb x w a7 ((gC t a8 w).take hh.toNat) y (if 0<b0 then ir W H c x y w hh f g bd cx cy ca cb else c)
 else if 0<b0 then ir W H c x y w hh f g bd cx cy ca cb else c
theorem Jo{W H}{P:(Nat->Nat->Ce)->Prop}{f g bd cx cy ca cb i b d e a}{t}{x y w hh}{c}(j:∀c,P c->P (ir W H c x y w hh f g bd cx cy ca cb))(k:∀x y s c,P c->P (wrL W H f g bd cx cy ca cb x y s c))(h:P c):P (pnF W H f g bd cx cy ca cb i b d e a t x y w hh c):=by
 have h1:P (if 0<a then ir W H c x y w hh f g bd cx cy ca cb else c):=by
  split;·grind
  ·exact h
 unfold pnF;split;·simp_all[G8]
 ·split;all_goals simp_all[sd]
section
variable{K M cap W H:Nat} {c:Nat->Nat->Ce}
theorem Lq w(h:CS 91 73 w K M cap W H c)(i:1<=W/\W<=400)(d:1<=H/\H<=400)(hp:PAll W H c)x y a b f g bd cx cy ca cb:
 Cw 30 #[Pq K,rv x y a b,sv f g bd,rv cx cy ca cb] w λe w'=>e=Rw (.tuple #[])/\Cv 73 w' M W H (ir W H c x y a b f g bd cx cy ca cb)/\bp M w w':=
 tG w h i d hp x y a b f g bd cx cy ca cb (cj W H x y a b cx cy ca cb).1 (cj W H x y a b cx cy ca cb).2.1 (cj W H x y a b cx cy ca cb).2.2.1 (cj W H x y a b cx cy ca cb).2.2.2 rfl
theorem FG(C t:World)(h:CS 91 73 t K M cap W H c)(hW:1<=W/\W<=400)(hH:1<=H/\H<=400)(hp:PAll W H c)(ht:bN C)(hU:Bt C t)(hM:C.heap.size<=M)(f g bd cx cy ca cb:Int)(a D E F G I J i j k L d N up:Int)(tx:ByteArray)(R:Value)(x y w hh:Int)(hs:tx.size<=100000)(hx:-100000000000<=x/\x<=100000000000)(hy:-100000000000<=y/\y<=100000000000)(hw:0<=w/\w<=100000)(zr:0<=hh/\hh<=100000)(ze:-1000000000000<=cy/\cy<=1000000000000)(zc:-1000000000000<=cb/\cb<=1000000000000):
 Cw 13 #[Gp K f g bd cx cy ca cb,fB a D E F G I J i j k L d N tx R up,rv x y w hh] t λe w'=>e=Rw (.tuple #[])/\Cv 73 w' M W H (pnF W H f g bd cx cy ca cb a i j k d tx.data.toList x y w hh c)/\bp M t w':=by
 have za:=h.cv.lt;obtain⟨A,hA⟩:=ad t.heap.size;obtain⟨b,n⟩:=ad (((t.alloc (.cells #[Pq K,Iq f,Iq g,Iq bd,Iq cx,Iq cy,Iq ca,Iq cb] 54)).alloc (.cells #[Iq a,Iq D,Iq E,Iq F,Iq G,Iq I,Iq J,Iq i,Iq j,Iq k,Iq L,Iq d,Iq N,.string tx,R,Iq up] 57)).alloc (.cells #[Iq x,Iq y,Iq w,Iq hh] 52));have l:Hid (Bt t b):=by rw[<-n];exact((((Gr.refl t).alloc _).alloc _).alloc _).below
 have zb:b.heap[A]?=some (.cells #[Pq K,Iq f,Iq g,Iq bd,Iq cx,Iq cy,Iq ca,Iq cb] 54 (0,0)):=by rw[<-n,<-hA,cK _ _ _ (by rw[au,au];omega),cK _ _ _ (by simp_all)];exact heap_alloc_new _ _
 have zh:b.heap[A+1]?=some (.cells #[Iq a,Iq D,Iq E,Iq F,Iq G,Iq I,Iq J,Iq i,Iq j,Iq k,Iq L,Iq d,Iq N,.string tx,R,Iq up] 57 (0,0)):=by rw[<-n,<-hA,cK _ _ _ (by simp_all),<-World.size_alloc];exact heap_alloc_new _ _
 have B:b.heap[A+1+1]?=some (.cells #[Iq x,Iq y,Iq w,Iq hh] 52 (0,0)):=by rw[<-n,<-hA,<-World.size_alloc,<-World.size_alloc];exact heap_alloc_new _ _
 have zq:Hid (A+1+1<b.heap.size):=(aD.1 B).1;have zt:Hid (M<A):=by rw[<-hA];exact za
 have HS:Hid (∀u,bp M b u->(u.cell? (aj A 0)=some (Pq K)/\u.cell? (aj A 1)=some (Iq f)/\u.cell? (aj A 2)=some (Iq g)/\u.cell? (aj A 3)=some (Iq bd)/\u.cell? (aj A 4)=some (Iq cx)/\u.cell? (aj A 5)=some (Iq cy)/\u.cell? (aj A 6)=some (Iq ca)/\u.cell? (aj A 7)=some (Iq cb))/\(u.cell? (aj (A+1) 0)=some (Iq a)/\u.cell? (aj (A+1) 1)=some (Iq D)/\u.cell? (aj (A+1) 2)=some (Iq E)/\u.cell? (aj (A+1) 3)=some (Iq F)/\u.cell? (aj (A+1) 4)=some (Iq G)/\u.cell? (aj (A+1) 5)=some (Iq I)/\u.cell? (aj (A+1) 6)=some (Iq J)/\u.cell? (aj (A+1) 7)=some (Iq i)/\u.cell? (aj (A+1) 8)=some (Iq j)/\u.cell? (aj (A+1) 9)=some (Iq k)/\u.cell? (aj (A+1) 10)=some (Iq L)/\u.cell? (aj (A+1) 11)=some (Iq d)/\u.cell? (aj (A+1) 12)=some (Iq N)/\u.cell? (aj (A+1) 13)=some (.string tx)/\u.cell? (aj (A+1) 14)=some (R)/\u.cell? (aj (A+1) 15)=some (Iq up))/\u.cell? (aj (A+1+1) 0)=some (Iq x)/\u.cell? (aj (A+1+1) 1)=some (Iq y)/\u.cell? (aj (A+1+1) 2)=some (Iq w)/\u.cell? (aj (A+1+1) 3)=some (Iq hh)):=λu hu=>by
  have e1:=(hu.block A rd dg).trans zb;have e2:=(hu.block (A+1) rd dg).trans zh;have e3:=(hu.block (A+1+1) zq dg).trans B;refine⟨⟨?_,?_,?_,?_,?_,?_,?_,?_⟩,⟨?_,?_,?_,?_,?_,?_,?_,?_,?_,?_,?_,?_,?_,?_,?_,?_⟩,?_,?_,?_,?_⟩;all_goals first
   |(rw[Lib.cell_of_heap e1];rfl)
   |(rw[Lib.cell_of_heap e2];rfl)
   |(rw[Lib.cell_of_heap e3];rfl)
 obtain⟨⟨z0,z1,z2,z3,z4,z5,z6,z7⟩,⟨n0,n1,n2,n3,n4,n5,n6,n7,n8,n9,zi,zj,zk,zl,zm,zn⟩,r0,r1,r2,r3⟩:=HS b (bp.refl _ _);have z:=hU.trans (l.mono hU.size);have U:Hid (∀u,bp M b u->Bt C u):=λu hu=>hu.low hM z.size z;have v:Hid (∀c1 u,bp M b u->Cv 73 u M W H c1->CS 91 73 u K M cap W H c1):=λc1 u hu hv=>⟨((hu.block K (zz007 h.klt l.size) h.ne).trans (l.block K h.klt)).trans h.kb,hv,h.ne,h.hc⟩;have X:Hid (Cv 73 b M W H c):=h.cv.keep (l.block M za);obtain⟨c1,r⟩:=ad (if 0<d then ir W H c x y w hh f g bd cx cy ca cb else c);have T:Hid (PAll W H c1):=by
  rw[<-r];show PAll W H (if 0<d then _ else c);split;·exact hp.filX hW hH _ _ _ _ _ _ _ _ _ _ _
  ·exact hp
 have Y:Hid (2<=w->2<=hh->∀u,bp M b u->Cv 73 u M W H c1->Cw 31 #[Gp K f g bd cx cy ca cb,rv x y w hh] u λe p=>e=Rw (.tuple #[])/\Hid (Cv 73 p M W H (bdF W H f g bd cx cy ca cb x y w hh c1))/\Hid (bp M b p)):=λq1 q2 u hu hv=>(pF C u (v c1 u hu hv) hW hH T ht (U u hu) hM f g bd cx cy ca cb x y w hh hx hy dg dg ze zc).mono λe p ⟨h1,h2,h3⟩=>⟨h1,h2,hu.trans h3⟩;have Z:Hid (∀u,bp M b u->Cv 73 u M W H c1->Cw 32 #[Gp K f g bd cx cy ca cb,fB a D E F G I J i j k L d N tx R up,rv x y w hh] u λe p=>e=Rw (.tuple #[])/\Hid (Cv 73 p M W H (txK W H f g bd cx cy ca cb x w j ((gC tx.data.toList k w).take hh.toNat) y c1))/\Hid (bp M b p)):=λu hu hv=>(s_ C u (v c1 u hu hv) hW hH T ht (U u hu) hM f g bd cx cy ca cb a D E F G I J i j k L d N up tx R x y w hh hs hx hy hw zr ze zc).mono λe p ⟨h1,h2,h3⟩=>⟨h1,h2,hu.trans h3⟩;have FI:Hid (0<d->Cw 30 #[Pq K,rv x y w hh,sv f g bd,rv cx cy ca cb] b λe p=>e=Rw (.tuple #[])/\Hid (Cv 73 p M W H c1)/\Hid (bp M b p)):=λhb=>by rw[<-r,if_pos hb];exact Lq b (v c b (bp.refl _ _) X) hW hH hp x y w hh f g bd cx cy ca cb
 have zo:Hid (¬0<d->c1=c):=λhb=>rd;have o:((a==3)=true/\(i==1)=true/\2<=w/\2<=hh/\Hid (pnF W H f g bd cx cy ca cb a i j k d tx.data.toList x y w hh c=bdF W H f g bd cx cy ca cb x y w hh c1))\/((a==3)=true/\(a==5)=false/\(i==1)=true/\2<=w/\¬2<=hh/\Hid (pnF W H f g bd cx cy ca cb a i j k d tx.data.toList x y w hh c=c1))\/((a==3)=true/\(a==5)=false/\(i==1)=true/\¬2<=w/\Hid (pnF W H f g bd cx cy ca cb a i j k d tx.data.toList x y w hh c=c1))\/((a==3)=true/\(a==5)=false/\(i==1)=false/\Hid (pnF W H f g bd cx cy ca cb a i j k d tx.data.toList x y w hh c=c1))\/((a==3)=false/\(a==5)=true/\1<=w/\Hid (pnF W H f g bd cx cy ca cb a i j k d tx.data.toList x y w hh c=txK W H f g bd cx cy ca cb x w j ((gC tx.data.toList k w).take hh.toNat) y c1))\/((a==3)=false/\(a==5)=true/\¬1<=w/\Hid (pnF W H f g bd cx cy ca cb a i j k d tx.data.toList x y w hh c=c1))\/((a==3)=false/\(a==5)=false/\Hid (pnF W H f g bd cx cy ca cb a i j k d tx.data.toList x y w hh c=c1)):=by
  unfold pnF;rw[r];by_cases Q:a=3;·grind
  ·grind
 obtain⟨cz,zg⟩:=ad (pnF W H f g bd cx cy ca cb a i j k d tx.data.toList x y w hh c);rw[zg]at o⊢;clear h hp ht hU z zb zh B r zg;unfold Gp rv at Y;unfold Gp rv fB at Z;unfold sv rv at FI;unfold Gp fB rv;go_enter func13,ntmps13;by_cases hb:0<d;focus go_wp2_with fail;clear n hA;refine(FI hb).mono ?_;rintro e u1 ⟨rfl,q,m⟩;clear z0 z1 z2 z3 z4 z5 z6 z7 n0 n1 n2 n3 n4 n5 n6 n7 n8 n9 zi zj zk zl zm zn r0 r1 r2 r3;obtain⟨⟨z0,z1,z2,z3,z4,z5,z6,z7⟩,⟨n0,n1,n2,n3,n4,n5,n6,n7,n8,n9,zi,zj,zk,zl,zm,zn⟩,r0,r1,r2,r3⟩:=HS u1 m
 rotate_left;focus
  have q:Hid (Cv 73 b M W H c1):=by rw[zo hb];exact X
  have m:Hid (bp M b b):=bp.refl _ _
 all_goals
  rcases o with⟨O,P,Q,k4,s⟩|⟨O,k0,P,Q,k4,s⟩|⟨O,k0,P,Q,s⟩|⟨O,k0,P,s⟩|⟨O,P,Q,s⟩|⟨O,P,Q,s⟩|⟨O,P,s⟩;all_goals
   go_wp2_with(first|(go_at_call 31;refine ag (Y Q k4 _ m q) ?_;rintro e u2 ⟨rfl,V,S⟩)|(go_at_call 32;refine ag (Z _ m q) ?_;rintro e u2 ⟨rfl,V,S⟩));go_end0;first
    |exact⟨rfl,by rw[s.out];exact V,(bp.below l).trans S⟩
    |exact⟨rfl,by rw[s.out];exact q,(bp.below l).trans m⟩
end
