import Derived.CallsIn
import Derived.OrdersIn
import Derived.OrdersHeld
import Derived.TacticsIn
import Derived.RangeFuncCalls
import Derived.Deep.RegionHeld
import Derived.Test.YtehgehanbnkdiaaGreatDoorQ00
import Derived.Lib.Bytealg
import Derived.Test.YtehgehanbnkdiaaGreatDoorQ43
import Derived.Test.YtehgehanbnkdiaaGreatDoorQ01
import Derived.Test.YtehgehanbnkdiaaGreatDoorQ39
import Derived.Test.YtehgehanbnkdiaaGreatDoorQ37
set_option linter.all false
set_option maxRecDepth 100000
set_option maxHeartbeats 16000000
namespace Go.Proofs.YtehgehanbnkdiaaGreatDoor
open Go.RowKit Go.Sort Go.Proofs.Tryz
section
open Go
def ou(o:Oper):Bool:=match o.op with|.defer _=>false|_=>true
theorem G'{P}{b}{Q}{n l i}{K j}{a}{w}(hd:b.all ou=true)(y:¬LetsOut Q)(k:∀a w,K a w->j a w)(h:wpOp P b Q i K a w):wpOpIn (Fence.wide.inRound l) n P b Q i j a w:=by
 unfold wpOp at h;unfold wpOpIn;cases p:b[i]? with
 |none=>rw[p]at h;exact k _ _ h
 |some o=>
  rw[p]at h;dsimp only at h⊢;have z:∀c,o.op≠.defer c:=λc B=>by grind[ou]
  split at h
  ·rename_i m;rw[if_pos m];rcases h with h|⟨_,h⟩;case inr=>exact absurd h y
   refine⟨λ_ _=>trivial,?_⟩;show o.uponIn _ n P a j Q ((Oper.semAt (some l) a.eval o).run P w);rw[Oper.semAt_some l a.eval o z];unfold Oper.wp at h;generalize(execOp a.eval o).run P w=r at*;cases r with
   |ok x w'=>
    cases x<;>simp only[Oper.upon,Oper.uponIn]at h⊢;case value u=>grind
    case skip=>grind
    case defer d=>grind
    case enter f args=>refine⟨λq=>(by cases q),CallsIn.inRound l (callsIn_wide.2 (ag h λe A C=>?_))⟩;grind
    case row row args=>refine⟨λq=>(by cases q),λc t _=>?_⟩;obtain⟨v,w',r,s⟩:=h c t;exact⟨v,w',k _ _ r,stepsIn_wide.2 s⟩
   |halt x w'=>cases x<;>simp only[Oper.upon,Oper.uponIn]at h⊢;omega
  ·rename_i m;rw[if_neg m];exact⟨λ_ _=>trivial,k _ _ h⟩
theorem ro{P}{d}{Q}{n l}{j}(hd:d.all ou=true)(e:¬LetsOut Q):∀  fuel   b   a   w,wpAny P j d Q fuel b a w->wpAnyIn (Fence.wide.inRound l) n P j d Q fuel b a w
 |0,_,_,_,h=>h
 |fuel+1,_,_,_,h=>⟨h.1,λi hi=>G' hd e (λa w=>ro hd e fuel _ a w) (h.2 i hi)⟩
theorem tM{P}{b}{Q}{n l id}{S}{a}{w}(hd:b.all ou=true)(d:¬LetsOut Q)(e:P.follows .mixedOrders=true)(hS:S w.drew)(h:S w.drew->wpAnyH P .any b Q S b.size (Array.replicate b.size false) a w.drew):(Code.region id b true).wpIn (Fence.wide.inRound l) n P Q a w:=
 wpIn_region_any e (ro hd d _ _ _ _ (wpAny_of_held _ _ _ _ (h hS)))
end
section
open Go.Shelf
attribute[local go_sem] Oper.semAt_some
theorem mY:∀  t,(Lib.indexByte t 10=-1/\∀x∈t,x≠10)\/∃a b,t=a++10::b/\(∀x∈a,x≠10)/\Lib.indexByte t 10=(a.length:Int)
 |[]=>.inl ⟨rfl,λx d=>by cases d⟩
 |c::t=>by
  by_cases e:c=10;·right;refine⟨[],t,by rw[e];rfl,λx d=>(by cases d),?_⟩;unfold Lib.indexByte;rw[e];rfl
  ·have j:(c==(10:UInt8))=false:=by simpa using e
   rcases mY t with⟨h,i⟩|⟨a,b,h,i,k⟩
   ·left;refine⟨?_,λx d=>?_⟩;·unfold Lib.indexByte;grind
    grind
   ·right;refine⟨c::a,b,rn,λx d=>?_,?_⟩;·grind
    ·unfold Lib.indexByte;grind
theorem qO(s:BY)(c:Int)(w:AT):Cw 363 #[.string s,.int .u8 c] w λe w'=>e=Rw (Iq (Lib.indexByte s.data.toList c.toNat.toUInt8))/\w'=w:=by go_enter func363,ntmps363;go_wp2;rw[run_callFunc_extern func373 pt pt pt (e:=Extern.BytealgIndexByte.indexByte) pt,Lib.run_indexByteString];simp only[Result.andThen];rw[xn];go_wp2;go_ret;simp_all
theorem Dv(s:BY)(w:AT):Cw 345 #[.string s,.string ⟨#[10]⟩] w λe w'=>e=Rw (Iq (Lib.indexByte s.data.toList 10))/\w'=w:=by
  have C:Hid (∀w,Cw 363 #[.string s,.int .u8 10] w λe w'=>e=Rw (Iq (Lib.indexByte s.data.toList 10))/\w'=w):=λw=>qO s 10 w;have a:(({data:=#[10]}:BY)[0]'(by show 0<1;omega))=10:=rfl;go_enter func345,ntmps345;go_wp2_with(go_at_call 363;refine(C _).mono ?_;rintro e b ⟨rfl,rfl⟩);all_goals
    go_ret;first
      |exact⟨rfl,rfl⟩
      | (refine⟨?_,rfl⟩;have h:([10]==s.toList)=true:=by assumption
         have e:s.data.toList=[10]:=by rw[<-Lib.toList_data];exact(beq_iff_eq.1 h).symm
         rw[e];rfl)
theorem FQ(s:BY)(w:AT):Cw 327 #[.string s,.string ⟨#[10]⟩] w λe w'=>e=Rw (Iq (Lib.indexByte s.data.toList 10))/\w'=w:=by have C:=qH<|λw=>Dv s w;go_enter func327,ntmps327;go_wp2_with(go_at_call 345;refine(C _).mono ?_;rintro e a ⟨rfl,rfl⟩);go_ret;simp_all
def iL(b0 b1 b2:Nat)(W W':AT):Prop:=W'.heap[b0]?=W.heap[b0]?/\W'.heap[b1]?=W.heap[b1]?/\W'.heap[b2]?=W.heap[b2]?
theorem iL.trans{a b d}{A B C}(h:iL a b d A B)(k:iL a b d B C):iL a b d A C:=⟨k.1.trans h.1,k.2.1.trans h.2.1,k.2.2.trans h.2.2⟩
def D4(t:zzf):Array Fd:=#[.string ⟨t.toArray⟩]
def GU(b:Nat)(W:AT):Nat:=match W.cell? (aq b 0)with
 |some (.string s)=>s.size
 |_=>0
theorem Fz(a b:zzf)n(d:n=a.length):(⟨(a++b).toArray⟩:BY).extract 0 n=⟨a.toArray⟩:=by subst d;apply jZ;simp_all
theorem C8(a b:zzf)n k(e:n=a.length)(d:k=(a++b).length):(⟨(a++b).toArray⟩:BY).extract n k=⟨b.toArray⟩:=by subst e;subst d;apply jZ;simp_all
theorem lP(n:Nat)(hn:3<=n)(i h j:Nat)(t:zzf)(ht:t.length<=1000000)(Q:AT)(zg:i≠h)(zi:j≠h)(hp:Q.heap[i]?=some (.cells #[.string ⟨#[10]⟩] 9 (0,0)))(hs:Q.heap[h]?=some (.cells #[.string ⟨t.toArray⟩] 9 (0,0)))(hv:Q.heap[j]?=some (.cells #[Iq 0] 3 (0,0))):
 Eu Fence.wide n prog 325 #[Pq i,Pq h,Pq j] D4 h (iL i h j) (λxs=>xs=cR t) (λx=>x.length<=t.length) (t.length+1) Q:=by
 intro k0 J W hW hJ hY h0;have v:=(hW.block i (aj.1 hp).1).trans hp;have I:=(hW.block h (aj.1 hs).1).trans hs;have L:=(hW.block j (aj.1 hv).1).trans hv;have D:Hid (W.heap[i]?=some (.cells #[.string ⟨#[10]⟩] 9 (0,0))/\W.heap[h]?=some (.cells #[.string ⟨t.toArray⟩] 9 (0,0))/\W.heap[j]?=some (.cells #[Iq 0] 3 (0,0))):=⟨v,I,L⟩;have Y:W.cell? (aq i 0)=some (.string ⟨#[10]⟩):=by simp[World.cell?,v]
 have HJ:=qH<|hJ;have HY:Hid (∀d x X,J d X->d.length<t.length+1->x.length<=t.length->YieldAt Fence.wide (n-1) prog k0 (D4 x) X λe W'=>e=.returned (.bool true)/\J (d++[x]) W'/\iL i h j X W'):=hY;have U:Hid ((cR t).length<=t.length+1):=by have k:=mA t;have u:=List.count_le_length (a:=(10:UInt8)) (l:=t);show _<=_;omega
 have C:=qH<|h0;clear hp hs hv v I L hJ hY h0;refine callsIn_of_wp func325 rfl trivial ?_ rfl;simp only[ntmps325,iH,cN,en,Nat.reduceAdd,Nat.reduceSub,nH,nJ,nK,nL,nM,kt];gi_wp2;gi_loopw[7] (λ_ wr=>∃(x:zzf) (d:List (List UInt8)),Hid (d++cR x=cR t)/\x.length<=t.length/\Hid (wr.heap[i]?=some (.cells #[.string ⟨#[10]⟩] 9 (0,0))/\wr.heap[h]?=some (.cells #[.string ⟨x.toArray⟩] 9 (0,0))/\wr.heap[j]?=some (.cells #[Iq 0] 3 (0,0)))/\Hid (J d wr)) (λ_ wr=>GU h wr);case atStart=>exact⟨t,[],rfl,ad _,D,C⟩
 case round=>
  obtain⟨x,d,o,zj,s,p⟩:=hrel;clear Y D C;have G:d.length<t.length+1:=by have k:=congrArg List.length o;rw[aI]at k;have u:=mA x;have Z:=U.out;omega
  have Y:wr.cell? (aq i 0)=some (.string ⟨#[10]⟩):=by simp[World.cell?,s.1]
  have cs:wr.cell? (aq h 0)=some (.string ⟨x.toArray⟩):=by simp[World.cell?,s.2.1]
  have cv:wr.cell? (aq j 0)=some (Iq 0):=by simp[World.cell?,s.2.2]
  have z:Hid (Calls prog 327 #[.string ⟨x.toArray⟩,.string ⟨#[10]⟩] wr λe w'=>e=.returned (Iq (Lib.indexByte x 10))/\w'=wr):=FQ _ _;rcases mY x with⟨k,u⟩|⟨a,b,k,u,Z⟩;·rw[k]at z;have V:=qH<|paras_one x u;obtain⟨fn,O,assign,body,hy,hR⟩:=HY d x wr p G zj;dsimp only[D4]at hy;have P:=qH<|hR;clear hR k u s;gi_wp2_with fail;refine⟨trivial,λ_=>dg,(callsIn_wide.2 z).mono ?_⟩;rintro e w5 ⟨rfl,y⟩;obtain rfl:=y.symm;clear z;gi_wp2;refine⟨λ_=>dg,P.mono ?_⟩;rintro e A ⟨rfl,q,m⟩;gi_wp2;go_end0;exact⟨⟨_,rfl⟩,_,by rw[<-o.out,V.out],q⟩
  ·rw[Z]at z;have V:Hid (cR x=a::cR b):=by show _=_;rw[k];exact rU a b u
   have F:x.length=a.length+1+b.length:=by rw[k];simp;omega
   have ze:=p.out;obtain⟨fn,O,assign,body,hy,hR⟩:=HY d a wr p G dg;dsimp only[D4]at hy;have P:=qH<|hR;have zh:(⟨x.toArray⟩:BY).size=x.length:=by simp[ByteArray.size]
   have e1:(⟨x.toArray⟩:BY).extract 0 a.length=⟨a.toArray⟩:=by rw[k];exact Fz a (10::b) _ rfl
   have e2:(⟨x.toArray⟩:BY).extract (a.length+1) (a.length+1+b.length)=⟨b.toArray⟩:=by rw[<-F];rw[k,show a++10::b=(a++[10])++b by simp];exact C8 (a++[10]) b _ _ At rfl
   clear hR k u Z;gi_wp2_with fail;refine⟨trivial,λ_=>dg,(callsIn_wide.2 z).mono ?_⟩;rintro e w5 ⟨rfl,y⟩;obtain rfl:=y.symm;clear z;gi_wp2;refine⟨λ_=>dg,P.mono ?_⟩;clear P hy;rintro e A ⟨rfl,q,m⟩;have w:=m.1.trans s.1;have r:=m.2.1.trans s.2.1;have N:=m.2.2.trans s.2.2;have zm:A.cell? (aq i 0)=some (.string ⟨#[10]⟩):=by simp[World.cell?,w]
   have zn:A.cell? (aq h 0)=some (.string ⟨x.toArray⟩):=by simp[World.cell?,r]
   have zo:A.frozen? (aq h 0)=false:=frozen_of_row _ _ _ _ _ r;obtain⟨B,E⟩:=af (A.setCell (aq h 0) (.string ⟨b.toArray⟩));have T:Hid (B.heap[i]?=some (.cells #[.string ⟨#[10]⟩] 9 (0,0))/\B.heap[h]?=some (.cells #[.string ⟨b.toArray⟩] 9 (0,0))/\B.heap[j]?=some (.cells #[Iq 0] 3 (0,0))):=by rw[<-E];exact⟨(aH _ (aq h 0) _ i zg).trans w,Boxed.set (t:=9) (.string ⟨b.toArray⟩) r,(aH _ (aq h 0) _ j zi).trans N⟩
   have zk:Hid (J (d++[a]) B):=by rw[<-E];exact HJ _ _ _ _ q (grownBy_setCell' A h _) (.inr rfl)
   have zl:Hid ((d++[a])++cR b=cR t):=by show _=_;rw[<-o.out,V.out];simp
   have R:Hid (GU h B=b.length):=by
    show _=_;have:B.cell? (aq h 0)=some (.string ⟨b.toArray⟩):=by simp[World.cell?,T.2.1]
    unfold GU;rw[this];simp[ByteArray.size]
   have S:Hid (GU h wr=x.length):=by show _=_;unfold GU;rw[cs];exact zh
   clear w r N q m Y cs cv s p ze;gi_wp2;go_roundw;case rel=>grind
   case measure=>rw[R.out,S.out];omega
attribute[local go_sem] Oper.semAt_some
theorem splitSeq0_any(s:BY)(W:AT):
 Cw 288 #[.string s,.string ⟨#[10]⟩,Iq 0] W λe w'=>e=Rw (.func (.func 325) #[] #[Pq (W.heap.size+1),Pq W.heap.size,Pq (W.heap.size+1+1)])/\w'=((W.alloc (.cells #[.string s] 9)).alloc (.cells #[.string ⟨#[10]⟩] 9)).alloc (.cells #[Iq 0] 3):=by go_enter func288,ntmps288;go_wp2;go_ret;simp_all
theorem lQ(s:BY)(W:AT):
 Cw 239 #[.string s,.string ⟨#[10]⟩] W λe w'=>e=Rw (.func (.func 325) #[] #[Pq (W.heap.size+1),Pq W.heap.size,Pq (W.heap.size+1+1)])/\w'=((W.alloc (.cells #[.string s] 9)).alloc (.cells #[.string ⟨#[10]⟩] 9)).alloc (.cells #[Iq 0] 3):=by have C:=qH<|splitSeq0_any s;go_enter func239,ntmps239;go_wp2_with(go_at_call 288;refine(C _).mono ?_;rintro e a ⟨rfl,rfl⟩);go_ret;simp_all
theorem rL{d e h B}(i:d<B)(j:e<B)(k:h<B)W l x(o:B<=l):iL d e h W (W.putObj l x):=by have n:=grownBy_putObj' W l x;have a:∀b,b<B->(W.putObj l x).heap[b]?=W.heap[b]?:=λb m=>World.putObj_heap_other dg;exact⟨a _ i,a _ j,a _ k⟩
theorem JK t:0<=oU t/\oU t<=2*t.length:=by unfold oU;have h:=eI (aA t);have a:=(cM _ h (aZ (aA t)).length);grind[bS,aA,bm]
theorem Aj(s:BY)(W:AT)(ht:aY W)(P:s.size<=4000):
 Calls prog 187 #[.string s] W λe a=>e=.returned (Iq (Iu s.data.toList))/\Below W.heap.size W a:=by
 obtain⟨t,r⟩:=af s.data.toList;have Z:s=⟨t.toArray⟩:=by rw[<-r]
 have zm:t.length<=4000:=by rw[<-r,ep];exact P
 rw[r];subst Z;clear r P;refine(callsIn_wide (n:=6)).1 ?_;refine callsIn_of_wp_marks func187 rfl trivial ?_ rfl;simp only[ntmps187,iH,cN,en,Nat.reduceAdd,Nat.reduceSub,nH,nJ,nK,nL,nM,kt];gi_wp2_with fail;refine⟨trivial,(callsIn_wide.2 (lQ ⟨t.toArray⟩ _)).mono ?_⟩;rintro e w' ⟨rfl,rfl⟩;obtain⟨S,hS⟩:=af W.heap.size;have bO:=Boxed.new W 3 (Iq 0);obtain⟨l,i⟩:=af ((((W.alloc (.cells #[Iq 0] 3)).alloc (.cells #[.string ⟨t.toArray⟩] 9)).alloc (.cells #[.string ⟨#[10]⟩] 9)).alloc (.cells #[Iq 0] 3));have T:Boxed l S 3 (Iq 0):=by rw[<-i,<-hS];exact((bO.alloc _).alloc _).alloc _
 have V:Boxed l (S+1) 9 (.string ⟨t.toArray⟩):=by rw[<-i,<-hS];have:=Boxed.new (W.alloc (.cells #[Iq 0] 3)) 9 (.string ⟨t.toArray⟩);rw[ai]at this;exact(this.alloc _).alloc _
 have U:Boxed l (S+2) 9 (.string ⟨#[10]⟩):=by rw[<-i,<-hS];have:=Boxed.new ((W.alloc (.cells #[Iq 0] 3)).alloc (.cells #[.string ⟨t.toArray⟩] 9)) 9 (.string ⟨#[10]⟩);rw[ai,ai]at this;exact this.alloc _
 have X:Boxed l (S+3) 3 (Iq 0):=by rw[<-i,<-hS];have:=Boxed.new (((W.alloc (.cells #[Iq 0] 3)).alloc (.cells #[.string ⟨t.toArray⟩] 9)).alloc (.cells #[.string ⟨#[10]⟩] 9)) 3 (Iq 0);rw[ai,ai,ai]at this;exact this
 have G:Below W.heap.size W l:=by rw[<-i];exact((((Gr.refl W).alloc _).alloc _).alloc _).alloc _|>.below
 have zl:l.heap.size=S+4:=by rw[<-i];simp;omega
 rw[ai,i];gi_wp2;rw[hS]at G;refine jV rfl dg (gf:=325) (lb:=#[Pq (S+1+1),Pq (S+1),Pq (S+1+1+1)]) rfl trivial (enters_of func325 pt rfl)
  (lP 5 dg (S+1+1) (S+1) (S+1+1+1) t dg l dg dg U V X) dg iL.trans (rL dg dg dg) (ac _ _) (λ_=>rfl)
  (λd a=>(Boxed a S 3 (Iq (Jj (d.map oU)))/\Below S W a)/\l.heap.size<=a.heap.size)
  (OwnFrom.and (OwnFrom.and (Own.from (boxed_own S 3 (λd:List (List UInt8)=>Iq (Jj (d.map oU)))) _) (ownFrom_below dg dg)) (λ_ _ _ _ h L _=>az h L.size))
  (λd A B row ⟨h,h2⟩ L hr=>⟨⟨h.1.kept L (λe=>rn),h.2.grown L dg (λq hq=>rn)⟩,az h2 L.size⟩)
  ⟨⟨T,G⟩,ad _⟩
  (λx a' a=>a'={tmps:=#[.string ⟨t.toArray⟩,undef,Iq 0,Pq S,.string ⟨x.toArray⟩,.string ⟨t.toArray⟩,.func (.func 325) #[] #[Pq (S+1+1),Pq (S+1),Pq (S+1+1+1)],.string ⟨x.toArray⟩,undef,undef,undef,undef,undef],defers:=[]})
  (λ_ _ _ _ _ _ P _ _=>P)
  ?assign ?body ?done;case assign=>rintro k0 d x a K hI I;dsimp only[D4]at I⊢;gi_wp2;exact I _ _ (KeepsFrom.refl _ _) ⟨rfl,rfl,rfl⟩ hI rfl
 case body=>
  rintro k0 d x a' a ⟨⟨j,F⟩,J⟩ rfl zk zn;have hc:=j.cell;have hf:=j.frozen;have zj:=F.size;have zh:(⟨x.toArray⟩:BY).size=x.length:=by simp[ByteArray.size]
  obtain⟨M,O⟩:=af (Jj (d.map oU));have Y:=JK x;obtain⟨y,hy⟩:=af (oU x);have R:Hid (Jj ((d++[x]).map oU)=max M y):=by show _=_;rw[lU,B8,List.map_nil,GY,O,hy]
  have CO:Hid (∀u,(u=a\/u=a.drew)->Calls prog 241 #[.string ⟨x.toArray⟩] u λe Q=>e=.returned (Iq y)/\Hid (Below a.heap.size a Q)/\Q.cell? (aq S 0)=some (Iq M)/\Q.frozen? (aq S 0)=false):=λu hu=>by
   have z:Below a.heap.size a u:=by
    rcases hu with rfl|rfl;·exact ac _ _
    ·exact(ac _ _).drew
   have ze:=(ht.below (w':=a) rn).below z;refine(mT ⟨x.toArray⟩ u ze (by rw[zh];omega)).mono ?_;rintro e Q ⟨rfl,q⟩;have v:=z.trans (q.mono z.size);refine⟨by rw[<-hy];rfl,v,?_,?_⟩;·rw[<-O];exact(v.cell (p:=(aq S 0)) j.lt).trans j.cell
   ·exact(ji (v.block S j.lt)).trans j.frozen
  have E:Hid (∀u,Below a.heap.size a u->sX l.heap.size (iL (S+1+1) (S+1) (S+1+1+1)) (λd a=>(Boxed a S 3 (Iq (Jj (d.map oU)))/\Below S W a)/\l.heap.size<=a.heap.size) (d++[x]) a .normal {tmps:=#[],defers:=[]} (u.setCell (aq S 0) (Iq (max M y)))):=λu hu=>by
   have zg:Boxed u S 3 (Iq (Jj (d.map oU))):=(hu.block S j.lt).trans j;have C:∀b,b≠S->b<a.heap.size->(u.setCell (aq S 0) (Iq (max M y))).heap[b]?=a.heap[b]?:=λb hb hl=>(aH u (aq S 0) _ b hb).trans (hu.block b hl);refine⟨⟨az hu.size At,λk o hk ho _=>?_⟩,⟨C _ dg dg,C _ dg dg,C _ dg dg⟩,⟨by rw[R.out];exact zg.set _,?_⟩,az J (az hu.size At)⟩;·grind
   ·exact(F.trans (hu.mono dg)).setCell (p:=(aq S 0)) (ad _) _
  rw[O]at hc;rw[hy]at Y;have zi:prog.follows .mixedOrders=true:=pt;clear O hy j F;gi_wp2_with fail;gi_region_with_o(refine⟨trivial,(CallsIn.inRound k0 (callsIn_wide.2 (CO _ rn))).mono ?_⟩;rintro e wq ⟨rfl,bq,cq,fq⟩);all_goals(gi_wp2_with fail)
  all_goals exact E wq bq
 case done=>rintro D ys a hD rfl ⟨⟨j,F⟩,J⟩ I;have hc:=j.cell;gi_wp2;refine⟨At,.inl ⟨_,_,rfl,run_takeDeferred I,?_⟩⟩;exact⟨_,results_tmp rfl _ _ _,rfl,by rw[hS];exact F.trans (belowK_b (w:=W) dg a D _ _ dg I rfl rfl)⟩
attribute[local go_sem] Oper.semAt_some
def cT(l:List (List UInt8)):List Fd:=l.map λr=>.string ⟨r.toArray⟩
theorem nt l x:cT (l++[x])=cT l++[.string ⟨x.toArray⟩]:=by simp[cT]
def iK(t:zzf)(wrap w:Int):List (List UInt8):=if wrap=1 then(bE (aZ (aA t)) w).map (·.T)else(cR t).map λp=>qJ (one (aZ (aA p))) w
theorem rO:∀  a   k  (b:k<a.length)  t   u,(cC a[k])[t]?=some u->(fL a)[k*5+t]?=some u
 |[],k,b,_,_,_=>rn
 |x::a,0,_,t,u,h=>by grind[cC,fL]
 |x::a,k+1,b,t,u,h=>by have d:(cC x).length=5:=rfl;show(cC x++fL a)[(k+1)*5+t]?=_;rw[xk dg,d,show(k+1)*5+t-5=k*5+t by omega];exact rO a k rn t u h
theorem wa:(prog.info? 9).map (λi=>(i.zero,i.size,i.bytes))=some (some (.string ⟨#[]⟩),1,16):=pt
def Rf(W W':AT):Prop:=∀(j:Nat) (c:Array Fd) (fz:Nat×Nat),W.heap[j]?=some (.cells c 341 fz)->W'.heap[j]?=some (.cells c 341 fz)
theorem L9{W:AT}{d k}{v}{i}(h:W.ownsRow d 9 1 v k i){j}{c}{t}{b}(m:W.heap[j]?=some (.cells c t b))(n:t≠9):some j≠v.ownBlock:=by
 rcases h.2 with⟨rfl,_⟩|⟨g,cap,a,rfl,_,l,_⟩;·simp[Value.ownBlock]
 ·intro e;obtain rfl:j=g:=by simpa[Value.ownBlock]using e
  grind
theorem Kt{W l}{o B k}{v m}{p}{i}(n:Boxed W B 171 v)(b:W.ownsRow o 9 1 v k p)(a:(W.alloc i).grownBy l v.ownBlock):Rf W (l.setCell (aq B 0) m):=λj c q e=>by
 have h:=(aj.1 e).1;have d:j≠B:=by rintro rfl;rw[show W.heap[j]?=_ from n]at e;cases e
 rw[aH l (aq B 0) m j d];exact(a.block j (by rw[ai];omega) (L9 b e (by decide))).trans ((bB _ _ _ h).trans e)
theorem Oy{W:AT}{B}{v}{b}(h:W.ownsRow B 341 5 v b.length (fL b)):∃p c,v=.slice p b.length c/\(b.length=0\/∃g a,p=some (aq g 0)/\W.heap[g]?=some (.cells a 341 (0,0))/\∀k (d:k<b.length)  t  u,(cC b[k])[t]?=some u->W.cell? (aq g (k*5+t))=some u):=by
 rcases h.2 with⟨rfl,l⟩|⟨g,cap,a,rfl,_,e,_⟩;·grind
 ·refine⟨some (aq g 0),cap,rfl,.inr ⟨g,a,rfl,e,λk d t u hu=>?_⟩⟩;have i:=h.cells (g:=g) rfl (k*5+t) _ (rO b k d t u hu);have j:((aq g 0):Addr).add (k*5+t)=(aq g (k*5+t)):=by unfold Addr.add;split<;>simp_all
  grind
theorem tF(kd a0 a1 a2 a3 a4 a5 a6 a7 a9 b0 b1 up:Int)(tx:BY)(kv:Fd)(w:Int)(W:AT)(ht:aY W)(hs:tx.size<=100000)(hw:0<=w/\w<=100000):
 Calls prog 175 #[d_ kd a0 a1 a2 a3 a4 a5 a6 a7 1 a9 b0 b1 tx kv up,Iq w] W λe L=>∃v,e=.returned v/\L.ownsRow W.heap.size 9 1 v (iK tx.data.toList 1 w).length (cT (iK tx.data.toList 1 w))/\Below W.heap.size W L:=by
 obtain⟨i0,hi,zA,zB,zC⟩:=info_parts wa;obtain⟨S,hS⟩:=af W.heap.size;obtain⟨d,h⟩:=af (((W.alloc (.cells #[Iq kd,Iq a0,Iq a1,Iq a2,Iq a3,Iq a4,Iq a5,Iq a6,Iq a7,Iq 1,Iq a9,Iq b0,Iq b1,.string tx,kv,Iq up] 140)).alloc (.cells #[Iq w] 3)).alloc (.cells #[.slice none 0 0] 171));have q:Hid (Below W.heap.size W d):=by rw[<-h];exact((((Gr.refl W).alloc _).alloc _).alloc _).below
 have x:d.heap[S]?=some (.cells #[Iq kd,Iq a0,Iq a1,Iq a2,Iq a3,Iq a4,Iq a5,Iq a6,Iq a7,Iq 1,Iq a9,Iq b0,Iq b1,.string tx,kv,Iq up] 140 (0,0)):=by rw[<-h,<-hS,bB _ _ _ (by rw[ai,ai];omega),bB _ _ _ (by simp_all)];exact heap_alloc_new _ _
 have R:Boxed d (S+1) 3 (Iq w):=by rw[<-h,<-hS,<-World.size_alloc];exact(Boxed.new _ 3 (Iq w)).alloc _
 have y:Boxed d (S+1+1) 171 (.slice none 0 0):=by rw[<-h,<-hS,<-World.size_alloc,<-World.size_alloc];exact Boxed.new _ _ _
 have n9:d.cell? (aq S 9)=some (Iq 1):=by rw[Lib.cell_of_heap x];rfl
 have zE:d.cell? (aq S 13)=some (.string tx):=by rw[Lib.cell_of_heap x];rfl
 have w0:=R.cell;have LN:Hid (Calls prog 238 #[.string tx,Iq w] d λe L=>∃v,e=.returned v/\Hid (L.ownsRow d.heap.size 341 5 v (bE (aZ (aA tx.data.toList)) w).length (fL (bE (aZ (aA tx.data.toList)) w)))/\Below d.heap.size d L):=Dw tx w d (ht.below q) dg dg dg;have ze:(bE (aZ (aA tx.data.toList)) w).length<=1000000:=by
  have h1:(bE (aZ (aA tx.data.toList)) w).length<=(aZ (aA tx.data.toList)).length+1:=by
   unfold bE;split;·simp
   ·grind[eS]
  have h2:=bS (aA tx.data.toList);have h3:=bm tx.data.toList;have h4:tx.data.toList.length=tx.size:=by rw[ep];rfl
  omega
 have I:Hid (iK tx.data.toList 1 w=(bE (aZ (aA tx.data.toList)) w).map (·.T)):=if_pos rfl;rw[I.out,qq];obtain⟨m,Y⟩:=af (bE (aZ (aA tx.data.toList)) w);rw[Y]at LN ze⊢;obtain⟨n,hn⟩:=af m.length;have HN:=qH hn;have zm:=qH y;have G:=qH<|y.lt;rw[hS];have HB3':Hid (Below S W d):=by rw[<-hS];exact q
 clear Y ht x R y I q;unfold d_;go_enter func175,ntmps175;go_wp2_with fail;clear h hS;refine LN.mono ?_;rintro e w2 ⟨v,rfl,HL,b2⟩;obtain⟨p,cp,rfl,X⟩:=Oy HL.out;have zr:=qH X;have zj:=qH<|HB3'.trans (b2.mono (by have:=G.out;omega));have zn:Hid (Boxed w2 (S+1+1) 171 (.slice none 0 0)):=(b2.block _ G).trans zm;clear LN HL X b2 n9 zE w0;rw[hn]at ze⊢;go_wp2;go_loopw[17] (λiv wr=>∃k:Nat,k<=n/\iv=Iq k/\Hid (Below S W wr)/\Hid (Rf w2 wr)/\∃B,Hid (Boxed wr (S+1+1) 171 B)/\Hid (wr.ownsRow S 9 1 B k (cT ((m.map (·.T)).take k)))) (λiv _=>n-(intOf iv).toNat);case atStart=>exact⟨0,aP _,rfl,zj,λ_ _ _ e=>e,_,zn,ga _ _ _ _⟩
 case round=>
  obtain⟨k,hk,rfl,HB,HK,B,HX,HR⟩:=hrel;by_cases zy:k<n
  ·have Z:(k:Int)<(n:Int):=dg
   obtain⟨g,zw,rfl,hg,hc⟩:=zr.resolve_left dg;have zx:k<m.length:=by have:=HN.out;omega
   have D:Hid (cT ((m.map (·.T)).take (k+1))=cT ((m.map (·.T)).take k)++[.string ⟨m[k].T.toArray⟩]):=by show _=_;rw[gW rn,nt,List.getElem_map]
   have r:=qH<|λt u hu=>(aO (a:=(aq g (k*5+t))) ((HK g zw _ hg).trans hg.symm)).trans (hc k zx t u hu);obtain⟨⟨T,V,F,N,E⟩,hx⟩:=af m[k];rw[hx]at r D;have c0:wr.cell? (aq g (k*5))=some (.string ⟨T.toArray⟩):=r 0 _ rfl;have c1:wr.cell? (aq g (k*5+1))=some (Iq V):=r 1 _ rfl;have c2:wr.cell? (aq g (k*5+2))=some (Iq F):=r 2 _ rfl;have c3:wr.cell? (aq g (k*5+3))=some (Iq N):=r 3 _ rfl;have c4:wr.cell? (aq g (k*5+4))=some (Iq E):=r 4 _ rfl;obtain⟨C,i⟩:=af (wr.alloc (.cells #[.string ⟨T.toArray⟩,Iq V,Iq F,Iq N,Iq E] 341));have l:Boxed C (S+1+1) 171 B:=by rw[<-i];exact HX.alloc _
   have zh:C.ownsRow S 9 1 B k (cT ((m.map (·.T)).take k)):=by rw[<-i];exact qt HR _
   have Q:Below S W C:=by rw[<-i];exact HB.alloc (by have:=HX.lt;omega) _
   have U:Rf w2 C:=by rw[<-i];exact λj c O e=>(bB _ _ _ (aj.1 (HK j c O e)).1).trans (HK j c O e)
   have l0:C.cell? (aq wr.heap.size 0)=some (.string ⟨T.toArray⟩):=by rw[<-i,Lib.cell_of_heap (heap_alloc_new _ _)];rfl
   have x5:=l.cell;have zD:S<=C.heap.size:=by have:=l.lt;omega
   have J:=qH l;have s:=qH zh;have zk:=qH Q;have zo:=qH U;clear hx r hc hg HK HB HR HX l zh Q U;go_wp2_with(at_builtin;refine wpList_append_own _ rfl _ _ 171 rfl S 9 i0 (.string ⟨#[]⟩) 1 16 underlying171 hi zA zB zC rfl (by decide) _ _ _ rfl (qt s _) _ 1 1 [.string ⟨T.toArray⟩] rfl rfl ?c1 ?c2 ?c3 ?c4 ?c5 ?_);(try case c1=>exact jC _ _ _);(try case c2=>first|exact rfl|(intro u hu;simp at hu;subst hu;rfl));case c3=>unfold maxLen;omega
   case c4=>omega
   case c5=>omega
   intro v' w6 b z _;obtain⟨g',o,rfl⟩:=ownsRow_succ b;obtain⟨A,zi,zg,_,P⟩:=J.appended (by decide) s zD dg b z;have zq:Hid (Rf w2 (w6.setCell (aq (S+1+1) 0) (Sq g' (k+1) o))):=λj c O e=>Kt J s z j c O (zo j c O e);have zv:=qH zi;have zt:=qH zg;have zl:Hid (Below S W (w6.setCell (aq (S+1+1) 0) (Sq g' (k+1) o))):=zk.trans P;have zF:=A.cell;have zG:=A.frozen;clear z b A zi zg P;go_wp2;go_roundw;case rel=>exact⟨k+1,zy,by go_num,zl,zq,_,zv,by rw[D.out];exact zt⟩
   grind[intOf]
  ·have Z:¬(k:Int)<(n:Int):=dg
   obtain rfl:k=n:=dg;have x0:=HX.cell;have zu:Hid (wr.ownsRow S 9 1 B k (cT (m.map (·.T)))):=by have:=HR.out;rw[gT rn]at this;exact this
   go_wp2;go_ret;exact⟨_,rfl,zu,HB⟩
theorem pP{W:AT}{B b}{e}{size}{v}{n}{d}(h:W.ownsRow B e size v n d)(l:b<=B):W.ownsRow b e size v n d:=by
 refine⟨h.1,?_⟩;rcases h.2 with h|⟨g,cap,a,i,j,k⟩;·grind
 ·exact .inr ⟨g,cap,a,i,az l j,k⟩
theorem Bj{W u}{B}{e}{size}{v}{n}{d}(h:W.ownsRow B e size v n d)(l:Bq W u):u.ownsRow B e size v n d:=by
 refine⟨h.1,?_⟩;rcases h.2 with h|⟨g,cap,a,i,j,b,k⟩;·grind
 ·exact .inr ⟨g,cap,a,i,j,(l.block g (aj.1 b).1).trans b,k⟩
def uC(w:Int)(p:zzf):List UInt8:=qJ (one (aZ (aA p))) w
theorem vA(kd a0 a1 a2 a3 a4 a5 a6 a7 G a9 b0 b1 up:Int)(tx:BY)(kv:Fd)(w:Int)(W:AT)(ht:aY W)(hs:tx.size<=100000)(hw:0<=w/\w<=100000)(h8:G≠1):
 Calls prog 175 #[d_ kd a0 a1 a2 a3 a4 a5 a6 a7 G a9 b0 b1 tx kv up,Iq w] W λe j=>∃v,e=.returned v/\j.ownsRow W.heap.size 9 1 v (iK tx.data.toList G w).length (cT (iK tx.data.toList G w))/\Below W.heap.size W j:=by
 have zh:Hid (iK tx.data.toList G w=(cR tx.data.toList).map (uC w)):=if_neg h8;rw[zh.out];obtain⟨t,N⟩:=af tx.data.toList;have zu:tx=⟨t.toArray⟩:=by rw[<-N]
 have zK:t.length<=100000:=by rw[<-N,ep];exact hs
 rw[N];subst zu;clear N hs zh;have zi:prog.follows .mixedOrders=true:=pt;have e8:(G==1)=false:=by simpa using h8
 obtain⟨i0,hi,zx,zy,zA⟩:=info_parts wa;unfold d_;refine(callsIn_wide (n:=6)).1 ?_;refine callsIn_of_wp_marks func175 rfl trivial ?_ rfl;simp only[ntmps175,iH,cN,en,Nat.reduceAdd,Nat.reduceSub,nH,nJ,nK,nL,nM,kt];gi_wp2_with fail;obtain⟨S,hS⟩:=af W.heap.size;obtain⟨X1,h1⟩:=af (W.alloc (.cells #[Iq kd,Iq a0,Iq a1,Iq a2,Iq a3,Iq a4,Iq a5,Iq a6,Iq a7,Iq G,Iq a9,Iq b0,Iq b1,.string ⟨t.toArray⟩,kv,Iq up] 140));have s1:X1.heap.size=S+1:=by rw[<-h1,ai,hS]
 obtain⟨X2,R⟩:=af (X1.alloc (.cells #[Iq w] 3));have s2:X2.heap.size=S+1+1:=by rw[<-R,ai,s1]
 obtain⟨X3,h3⟩:=af (X2.alloc (.cells #[.slice none 0 0] 171));have s3:X3.heap.size=S+1+1+1:=by rw[<-h3,ai,s2]
 rw[h1,R,h3];refine⟨trivial,(callsIn_wide.2 (lQ ⟨t.toArray⟩ _)).mono ?_⟩;rintro e w' ⟨rfl,rfl⟩;obtain⟨X4,T⟩:=af (X3.alloc (.cells #[.string ⟨t.toArray⟩] 9));have s4:X4.heap.size=S+1+1+1+1:=by rw[<-T,ai,s3]
 obtain⟨X5,Q⟩:=af (X4.alloc (.cells #[.string ⟨#[10]⟩] 9));have s5:X5.heap.size=S+1+1+1+1+1:=by rw[<-Q,ai,s4]
 obtain⟨r,J⟩:=af (X5.alloc (.cells #[Iq 0] 3));have s6:r.heap.size=S+1+1+1+1+1+1:=by rw[<-J,ai,s5]
 have bW:Boxed r (S+1) 3 (Iq w):=by
  have q:Boxed X2 (S+1) 3 (Iq w):=by rw[<-R,<-s1];exact Boxed.new _ _ _
  rw[<-J,<-Q,<-T,<-h3];exact(((q.alloc _).alloc _).alloc _).alloc _
 have bL:Boxed r (S+1+1) 171 (.slice none 0 0):=by
  have q:Boxed X3 (S+1+1) 171 (.slice none 0 0):=by rw[<-h3,<-s2];exact Boxed.new _ _ _
  rw[<-J,<-Q,<-T];exact((q.alloc _).alloc _).alloc _
 have bT:Boxed r (S+1+1+1) 9 (.string ⟨t.toArray⟩):=by
  have q:Boxed X4 (S+1+1+1) 9 (.string ⟨t.toArray⟩):=by rw[<-T,<-s3];exact Boxed.new _ _ _
  rw[<-J,<-Q];exact(q.alloc _).alloc _
 have bP:Boxed r (S+1+1+1+1) 9 (.string ⟨#[10]⟩):=by
  have q:Boxed X5 (S+1+1+1+1) 9 (.string ⟨#[10]⟩):=by rw[<-Q,<-s4];exact Boxed.new _ _ _
  rw[<-J];exact q.alloc _
 have bV:Boxed r (S+1+1+1+1+1) 3 (Iq 0):=by rw[<-J,<-s5];exact Boxed.new _ _ _
 have zo:Below S W r:=by rw[<-J,<-Q,<-T,<-h3,<-R,<-h1,<-hS];exact((((((Gr.refl W).alloc _).alloc _).alloc _).alloc _).alloc _).alloc _|>.below
 rw[T,Q,J,s3,hS];have zJ:aY r:=ht.below rn;clear h1 R h3 T Q J s1 s2 s3 s4 s5;gi_wp2;refine jV rfl dg (gf:=325) (lb:=#[Pq (S+1+1+1+1),Pq (S+1+1+1),Pq (S+1+1+1+1+1)]) rfl trivial (enters_of func325 pt rfl)
  (lP 5 dg (S+1+1+1+1) (S+1+1+1) (S+1+1+1+1+1) t dg r dg dg bP bT bV) dg iL.trans (rL dg dg dg) (ac _ _) (λ_=>rfl)
  (λa j=>((∃v,Boxed j (S+1+1) 171 v/\j.ownsRow r.heap.size 9 1 v a.length (cT (a.map (uC w)))/\True)/\Boxed j (S+1) 3 (Iq w))/\Below S W j/\r.heap.size<=j.heap.size)
  (OwnFrom.and (OwnFrom.and (Own.from (holdsRow_own r.heap.size (S+1+1) 171 9 1 (λa:List (List UInt8)=>a.length) (λa=>cT (a.map (uC w))) (λ_ _=>True)) _) (Own.from (boxed_own _ _ _) _)) (OwnFrom.and (ownFrom_below dg dg) (λ_ _ _ _ h X _=>az h X.size)))
  (λa A B row ⟨⟨⟨v,q1,q2,_⟩,q3⟩,q4,q5⟩ X hr=>by
   have Y:∀b,b≠S+1+1+1->some b≠row:=λb hb e=>rn;refine⟨⟨⟨v,q1.kept X (Y _ dg),q2.kept X ?_,trivial⟩,q3.kept X (Y _ dg)⟩,q4.grown X dg (λq hq=>rn),az q5 X.size⟩;rcases q2.2 with⟨rfl,_⟩|⟨g,cap,zC,rfl,zF,_⟩;·exact .inl rfl
   ·exact .inr (λe=>Y g dg e))
  ⟨⟨⟨_,bL,ga _ _ _ _,trivial⟩,bW⟩,zo,ad _⟩
  (λx a' j=>a'={tmps:=#[.agg #[Iq kd,Iq a0,Iq a1,Iq a2,Iq a3,Iq a4,Iq a5,Iq a6,Iq a7,Iq G,Iq a9,Iq b0,Iq b1,.string ⟨t.toArray⟩,kv,Iq up],Iq w,Pq S,Pq (S+1),.slice none 0 0,Pq (S+1+1),undef,undef,.string ⟨x.toArray⟩,.pointer (some (aq S 9)),Iq G,.bool false,undef,undef,undef,undef,undef,undef,undef,undef,undef,undef,undef,undef,undef,undef,undef,undef,.pointer (some (aq S 13)),.string ⟨t.toArray⟩,.func (.func 325) #[] #[Pq (S+1+1+1+1),Pq (S+1+1+1),Pq (S+1+1+1+1+1)],.string ⟨x.toArray⟩,undef,undef,undef,undef,undef,undef,undef],defers:=[]})
  (λ_ _ _ _ _ _ hs _ _=>hs)
  ?assign ?body ?done;case assign=>rintro k0 a x j K hI d;dsimp only[D4]at d⊢;gi_wp2;exact d _ _ (KeepsFrom.refl _ _) ⟨rfl,rfl,rfl⟩ hI rfl
 case body=>
  rintro k0 a x a' j ⟨⟨⟨v,hv,s,_⟩,L⟩,hB,zE⟩ rfl zG zL;have hc:=hv.cell;have wc:=L.cell;have zw:(⟨x.toArray⟩:BY).size=x.length:=by simp[ByteArray.size]
  obtain⟨y,hy⟩:=af (uC w x);have HV:=qH hv;have zg:=qH s;have C:=qH L;have zn:=qH hB;have CU:Hid (∀u,(u=j\/u=j.drew)->Calls prog 240 #[.string ⟨x.toArray⟩,Iq w] u λe u'=>e=.returned (.string ⟨y.toArray⟩)/\Hid (Below j.heap.size j u')):=λu hu=>by
   have V:Below j.heap.size j u:=by
    rcases hu with rfl|rfl;·exact ac _ _
    ·exact(ac _ _).drew
   refine(JL ⟨x.toArray⟩ w u ((ht.below (w':=j) rn).below V) (by rw[zw];omega) dg dg).mono ?_;rintro e u' ⟨rfl,q⟩;exact⟨by rw[<-hy];rfl,V.trans (q.mono V.size)⟩
  have ze:Hid (∀u F z,Below j.heap.size j u->z.ownsRow r.heap.size 9 1 F (a.length+1) (cT (a.map (uC w))++[.string ⟨y.toArray⟩])->(u.alloc (.cells #[.string ⟨y.toArray⟩] 9)).grownBy z v.ownBlock->(z.cell? (aq (S+1+1) 0)=some v/\z.frozen? (aq (S+1+1) 0)=false/\z.cell? (aq (S+1) 0)=some (Iq w))/\sX r.heap.size (iL (S+1+1+1+1) (S+1+1+1) (S+1+1+1+1+1)) (λa j=>((∃v,Boxed j (S+1+1) 171 v/\j.ownsRow r.heap.size 9 1 v a.length (cT (a.map (uC w)))/\True)/\Boxed j (S+1) 3 (Iq w))/\Below S W j/\r.heap.size<=j.heap.size) (a++[x]) j .normal {tmps:=#[],defers:=[]} (z.setCell (aq (S+1+1) 0) F)):=λu F z hu l E=>by
   have zk:Boxed u (S+1+1) 171 v:=(hu.block _ HV.lt).trans HV;have zj:u.ownsRow r.heap.size 9 1 v a.length (cT (a.map (uC w))):=Bj zg hu;obtain⟨Z,zv,zH,zr,zq⟩:=zk.appended (by decide) (pP zj (by omega:S<=_)) (by have:=zk.lt;omega) dg (pP l (by omega:S<=_)) E;have zI:=l.kept (grownBy_setCell' z _ F) (.inr (Z.not_row (by decide) l).symm);have zt:=λq hq=>(zj.lt q hq).1;have O:∀b,b≠S+1+1->b<r.heap.size->(z.setCell (aq (S+1+1) 0) F).heap[b]?=j.heap[b]?:=λb hb hl=>by rw[aH z (aq (S+1+1) 0) F b hb,E.block b (by rw[ai];have:=hu.size;omega) (λe=>rn),bB _ _ _ (by have:=hu.size;omega)];exact hu.block b dg
   have zl:Boxed (z.setCell (aq (S+1+1) 0) F) (S+1) 3 (Iq w):=(O (S+1) dg dg).trans C;refine⟨⟨Z.cell,Z.frozen,?_⟩,?_,⟨O _ dg dg,O _ dg dg,O _ dg dg⟩,⟨⟨F,zv,?_,trivial⟩,zl⟩,zn.trans ((hu.mono dg).trans zq),?_⟩;·have:=(aH z (aq (S+1+1) 0) F (S+1) rn).symm.trans zl;exact Boxed.cell this
   ·exact(KeepsOthers.trans ⟨hu.size,λk o ho _=>(hu.block k (aj.1 ho).1).trans ho⟩ zr).from _
   ·grind[nt]
   ·have h1:=hu.size;have R:=E.size;rw[ai]at R;simp[World.setCell];omega
  clear hv s L hB;gi_wp2_with fail;refine tM (S:=λu=>u.cell? (aq (S+1) 0)=some (Iq w)) pt (by rintro⟨_,_,q⟩;exact q) zi wc (λzD=>?_);refine wpAnyH_take (i:=1) (v:=?v1) rfl pt pt pt (λ_ _ _ h=>h) (Or.inl ⟨by rfl,?hy⟩) dg ?_;case hy=>intro w U;(try dsimp only at U);go_simp<;>with_reducible rfl
  try simp only[Act.put]
  refine wpAnyH_take (i:=2) (v:=?v2) rfl pt pt pt (λ_ _ _ h=>h) (Or.inl ⟨by rfl,?hy⟩) dg ?_;case hy=>intro w U;(try dsimp only at U);go_simp<;>with_reducible rfl
  try simp only[Act.put]
  refine wpAnyH_ready (rs:=[0,3]) pt At ?_;refine AllReadyH.cons rfl (λm d=>?_) (AllReadyH.cons rfl (λm d=>?_) AllReadyH.nil);focus go_simp;refine d.out _ _ wc (λ_=>?_);clear d m;refine wpAnyH_ready (rs:=[3]) pt At ?_;refine AllReadyH.cons rfl (λm d=>?_) AllReadyH.nil;go_simp;go_wp2_with(go_at_call 240;refine ag (CU _ rn) ?_;rintro e u ⟨rfl,P⟩);have wu:=(P.cell (p:=(aq (S+1) 0)) C.lt).trans C.cell;have lu:=(P.cell (p:=(aq (S+1+1) 0)) HV.lt).trans HV.cell;refine d.out _ _ wu (λ_=>?_);clear d m;refine wpAnyH_ready (rs:=[4]) pt At ?_;refine AllReadyH.cons rfl (λm d=>?_) AllReadyH.nil;go_simp;have wb:(u.alloc (.cells #[.string ⟨y.toArray⟩] 9)).cell? (aq (S+1) 0)=some (Iq w):=(World.cell?_alloc_some u _ _ rn).trans wu;have lb:(u.alloc (.cells #[.string ⟨y.toArray⟩] 9)).cell? (aq (S+1+1) 0)=some v:=(World.cell?_alloc_some u _ _ rn).trans lu;refine d.out _ _ wb (λ_=>?_);clear d m
  rotate_left;focus
   go_simp;go_wp2_with(go_at_call 240;refine ag (CU _ rn) ?_;rintro e u ⟨rfl,P⟩);have wu:=(P.cell (p:=(aq (S+1) 0)) C.lt).trans C.cell;have lu:=(P.cell (p:=(aq (S+1+1) 0)) HV.lt).trans HV.cell;refine d.out _ _ wu (λ_=>?_);clear d m;refine wpAnyH_ready (rs:=[0,4]) pt At ?_;refine AllReadyH.cons rfl (λm d=>?_) (AllReadyH.cons rfl (λm d=>?_) AllReadyH.nil);focus go_simp;refine d.out _ _ wu (λ_=>?_);clear d m;refine wpAnyH_ready (rs:=[4]) pt At ?_;refine AllReadyH.cons rfl (λm d=>?_) AllReadyH.nil;go_simp;have wb:(u.alloc (.cells #[.string ⟨y.toArray⟩] 9)).cell? (aq (S+1) 0)=some (Iq w):=(World.cell?_alloc_some u _ _ rn).trans wu;have lb:(u.alloc (.cells #[.string ⟨y.toArray⟩] 9)).cell? (aq (S+1+1) 0)=some v:=(World.cell?_alloc_some u _ _ rn).trans lu;refine d.out _ _ wb (λ_=>?_);clear d m
   rotate_left;focus go_simp;have wb:(u.alloc (.cells #[.string ⟨y.toArray⟩] 9)).cell? (aq (S+1) 0)=some (Iq w):=(World.cell?_alloc_some u _ _ rn).trans wu;have lb:(u.alloc (.cells #[.string ⟨y.toArray⟩] 9)).cell? (aq (S+1+1) 0)=some v:=(World.cell?_alloc_some u _ _ rn).trans lu;refine d.out _ _ wb (λ_=>?_);clear d m;refine wpAnyH_ready (rs:=[0]) pt At ?_;refine AllReadyH.cons rfl (λm d=>?_) AllReadyH.nil;go_simp;refine d.out _ _ wb (λ_=>?_);clear d m
  all_goals refine wpAnyH_ready (rs:=[5]) pt At ?_;refine AllReadyH.cons rfl (λm d=>?_) AllReadyH.nil;refine oa rfl (.tmp 32) (.tmp 36) 171 rfl r.heap.size 9 i0 (.string ⟨#[]⟩) 1 16 underlying171 hi zx zy zA rfl (by decide) v a.length (cT (a.map (uC w))) (by simp[Act.eval]) (qt (Bj zg P) _) _ 1 1 [.string ⟨y.toArray⟩] (by simp[Act.eval]) rfl (jC _ _ _) (by intro u hu;simp at hu;subst hu;rfl) (by unfold maxLen;omega) dg (by rw[ai];have:=P.size;omega) ?_;intro F z l E;obtain⟨g',zB,rfl⟩:=ownsRow_succ l;obtain⟨⟨f1,f2,f3⟩,f4⟩:=ze u _ z P l E;refine d.out _ _ f3 (λ_=>?_);clear d m;refine wpAnyH_ready (rs:=[6]) pt At ?_;refine AllReadyH.cons rfl (λm d=>?_) AllReadyH.nil;go_simp;refine d.out _ _ ((World.cell?_setCell_far _ _ _ _ rn).trans f3) (λ_=>?_);clear d m;refine wpAnyH_done pt ?_ _;exact f4
 case done=>rintro D ys j hD rfl ⟨⟨⟨v,hv,s,_⟩,L⟩,hB,_⟩ d;have hc:=hv.cell;gi_wp2;refine⟨At,.inl ⟨_,_,rfl,run_takeDeferred d,?_⟩⟩;refine⟨_,results_tmp rfl _ _ _,v,rfl,?_,by rw[hS];exact hB.trans (belowK_b (w:=W) dg j D _ _ dg d rfl rfl)⟩;rw[hS,qq];exact ownsRow_putObj (pP s dg) _ d rfl
end
theorem yn l a n:(aF ((l.drop a).take n)).length<=(aF l).length:=by
 have b:aF l=aF (l.take a)++aF (l.drop a):=by rw[<-pu,eH]
 have d:aF (l.drop a)=aF ((l.drop a).take n)++aF ((l.drop a).drop n):=by rw[<-pu,eH]
 rw[b,d,aI,aI];omega
theorem yw l w B(i:(aF l).length<=B)(e:w.toNat<=B):∀  f a,∀x∈ib f l w a,x.T.length<=B:=by
 have d:∀a,(dZ l w a).T.length<=B:=λa=>by
  have:=yn l a (aQ (l.drop a) w).n;unfold dZ;dsimp only;split;·simpa using e
  ·dsimp only;omega
 intro f;induction f with
 |zero=>intro a x b;cases b
 |succ f h=>
  intro a x b;simp only[ib]at b;split at b;·rw[BV.1 b];exact d a
  ·rcases jX.1 b with rfl|b;·exact d a
   ·exact h _ x b
theorem yD l:(aF (one l)).length=(aF l).length:=by
 induction l with
 |nil=>rfl
 |cons c l a=>grind[aF,one,mZ]
theorem vV:∀  t,∀p∈cR t,p.length<=t.length
 |[],p,a=>by grind[cR]
 |b::t,p,a=>by have d:=vV t;grind[cR]
theorem It t a w(j:t.length<=100000)(k:w<=100000):∀s∈iK t a w,s.length<=3000000:=by
 intro s b;unfold iK at b;split at b
 ·obtain⟨x,d,rfl⟩:=km.1 b;have h:=jQ t;unfold bE at d;split at d;·cases d
  ·exact yw _ w 3000000 dg dg _ _ x d
 ·obtain⟨p,e,rfl⟩:=km.1 b;have i:=vV t p e;grind[jQ,yD,aZ,aA,qJ,fJ,one,da]
theorem Ez T c W how:(qC T c W how).length<=T.length+100000+c.natAbs:=by grind[qC,Ey]
section
variable(W H:Nat) (f g bd cx cy ca cb:Int)
def Ag(x w al:Int):List (List UInt8)->Int->(Nat->Nat->Ce)->Nat->Nat->Ce
 |[],_,c=>c
 |s::r,y,c=>Ag x w al r (y+1) (wrL W H f g bd cx cy ca cb x y (qC s (ak (aZ (aA s))) w al) c)
theorem w_ x w a:∀  l   s   y   c,Ag W H f g bd cx cy ca cb x w a (l++[s]) y c=wrL W H f g bd cx cy ca cb x (y+l.length) (qC s (ak (aZ (aA s))) w a) (Ag W H f g bd cx cy ca cb x w a l y c)
 |[],s,y,c=>by show wrL W H f g bd cx cy ca cb x y _ _=wrL W H f g bd cx cy ca cb x (y+0) _ _;rw[Int.add_zero];rfl
 |p::l,s,y,c=>by show Ag W H f g bd cx cy ca cb x w a (l++[s]) (y+1) _=_;rw[w_ x w a l s,show(y+((p::l).length:Int))=y+1+l.length by simp;omega];rfl
theorem qi{P:(Nat->Nat->Ce)->Prop}x w a:∀  l   y   c,(∀y s c,P c->P (wrL W H f g bd cx cy ca cb x y s c))->P c->P (Ag W H f g bd cx cy ca cb x w a l y c)
 |[],_,_,_,h=>h
 |s::r,y,c,b,h=>qi x w a r _ _ b (b _ _ _ h)
end
theorem vz q b d h i j k l m a n o p up tx r w W(x:aY W)(u:tx.size<=100000)(y:0<=w/\w<=100000):
 Cw 175 #[d_ q b d h i j k l m a n o p tx r up,Iq w] W λe s=>∃v,e=Rw v/\s.ownsRow W.heap.size 9 1 v (iK tx.data.toList a w).length (cT (iK tx.data.toList a w))/\Bq W s:=by
 by_cases t:a=1;·subst t;exact tF q b d h i j k l m n o p up tx r w W x u y
 ·exact vA q b d h i j k l m a n o p up tx r w W x u y t
theorem L_{W:AT}{B}{v}{a}(h:W.ownsRow B 9 1 v a.length (cT a)):∃p c,v=.slice p a.length c/\a.length<=c/\(a.length=0\/∃g,p=some (aq g 0)/\B<=g/\g<W.heap.size/\∀k (l:k<a.length),W.cell? (aq g k)=some (.string ⟨a[k].toArray⟩)):=by
 rcases h.2 with⟨rfl,b⟩|⟨g,cap,d,rfl,e,j,i,_⟩;·exact⟨none,0,by rw[b],dg,.inl b⟩
 ·refine⟨some (aq g 0),cap,rfl,i,.inr ⟨g,rfl,e,(aj.1 j).1,λk l=>?_⟩⟩;have m:=h.cells (g:=g) rfl k (.string ⟨a[k].toArray⟩) (by grind[cT]);have n:((aq g 0):Addr).add k=(aq g k):=by unfold Addr.add;split<;>simp_all
  grind
section
variable{K M cap W H:Nat} {c:zzd}
theorem qV(U0 E:AT)(h:CS 196 46 E K M cap W H c)(hW:1<=W/\W<=400)(hH:1<=H/\H<=400)(hp:PAll W H c)(ht:aY U0)(hU:Bq U0 E)(hM:U0.heap.size<=M)(f g bd cx cy ca cb:Int)(R T U V X Y Z a6 b t a9 b0 b1 up:Int)(tx:BY)(kv:Fd)(x y w hh:Int)(hs:tx.size<=100000)(hx:-100000000000<=x/\x<=100000000000)(hy:-100000000000<=y/\y<=100000000000)(hw:0<=w/\w<=100000)(zR:0<=hh/\hh<=100000)(zA:-1000000000000<=cy/\cy<=1000000000000)(zx:-1000000000000<=cb/\cb<=1000000000000):
 Cw 100 #[Ee K f g bd cx cy ca cb,d_ R T U V X Y Z a6 b t a9 b0 b1 tx kv up,rv x y w hh] E λe w'=>e=Rw (.tuple #[])/\Cv 46 w' M W H (Ag W H f g bd cx cy ca cb x w b ((iK tx.data.toList t w).take hh.toNat) y c)/\bG M E w':=by
 have zN:prog.follows .mixedOrders=true:=pt;have zm:=h.cv.lt;obtain⟨A,hA⟩:=af E.heap.size;obtain⟨l,z⟩:=af (((E.alloc (.cells #[Pq K,Iq f,Iq g,Iq bd,Iq cx,Iq cy,Iq ca,Iq cb] 148)).alloc (.cells #[Iq R,Iq T,Iq U,Iq V,Iq X,Iq Y,Iq Z,Iq a6,Iq b,Iq t,Iq a9,Iq b0,Iq b1,.string tx,kv,Iq up] 140)).alloc (.cells #[Iq x,Iq y,Iq w,Iq hh] 93));have r:Hid (Bq E l):=by rw[<-z];exact((((Gr.refl E).alloc _).alloc _).alloc _).below
 have zn:l.heap[A]?=some (.cells #[Pq K,Iq f,Iq g,Iq bd,Iq cx,Iq cy,Iq ca,Iq cb] 148 (0,0)):=by rw[<-z,<-hA,bB _ _ _ (by rw[ai,ai];omega),bB _ _ _ (by simp_all)];exact heap_alloc_new _ _
 have N:l.heap[A+1]?=some (.cells #[Iq R,Iq T,Iq U,Iq V,Iq X,Iq Y,Iq Z,Iq a6,Iq b,Iq t,Iq a9,Iq b0,Iq b1,.string tx,kv,Iq up] 140 (0,0)):=by rw[<-z,<-hA,bB _ _ _ (by simp_all),<-World.size_alloc];exact heap_alloc_new _ _
 have O:l.heap[A+1+1]?=some (.cells #[Iq x,Iq y,Iq w,Iq hh] 93 (0,0)):=by rw[<-z,<-hA,<-World.size_alloc,<-World.size_alloc];exact heap_alloc_new _ _
 have G:=qH<|(aj.1 O).1;have zg:Hid (M<A):=by rw[<-hA];exact zm
 have HS:Hid (∀u,bG M l u->u.cell? (aq A 0)=some (Pq K)/\u.cell? (aq A 1)=some (Iq f)/\u.cell? (aq A 2)=some (Iq g)/\u.cell? (aq A 3)=some (Iq bd)/\u.cell? (aq A 4)=some (Iq cx)/\u.cell? (aq A 5)=some (Iq cy)/\u.cell? (aq A 6)=some (Iq ca)/\u.cell? (aq A 7)=some (Iq cb)/\u.cell? (aq (A+1+1) 0)=some (Iq x)/\u.cell? (aq (A+1+1) 1)=some (Iq y)/\u.cell? (aq (A+1+1) 2)=some (Iq w)/\u.cell? (aq (A+1+1) 3)=some (Iq hh)/\u.cell? (aq (A+1) 8)=some (Iq b)):=λu hu=>by
  have e1:=(hu.block A rn dg).trans zn;have e2:=(hu.block (A+1) rn dg).trans N;have e3:=(hu.block (A+1+1) G dg).trans O;refine⟨?_,?_,?_,?_,?_,?_,?_,?_,?_,?_,?_,?_,?_⟩;all_goals first
   |(rw[Lib.cell_of_heap e1];rfl)
   |(rw[Lib.cell_of_heap e2];rfl)
   |(rw[Lib.cell_of_heap e3];rfl)
 have i:Hid (∀(k:Nat) v,(#[Iq R,Iq T,Iq U,Iq V,Iq X,Iq Y,Iq Z,Iq a6,Iq b,Iq t,Iq a9,Iq b0,Iq b1,.string tx,kv,Iq up]:Array Fd)[k]?=some v->l.cell? (aq (A+1) k)=some v):=λk v hv=>by rw[Lib.cell_of_heap N];exact hv
 obtain⟨z0,z1,z2,z3,z4,z5,z6,z7,r0,r1,r2,r3,_⟩:=HS l (bG.refl _ _);have n0:l.cell? (aq (A+1) 0)=some (Iq R):=i 0 _ rfl;have n1:=i 1 _ rfl;have n2:=i 2 _ rfl;have n3:=i 3 _ rfl;have n4:=i 4 _ rfl;have n5:=i 5 _ rfl;have n6:=i 6 _ rfl;have n7:=i 7 _ rfl;have n8:=i 8 _ rfl;have n9:=i 9 _ rfl;have zG:=i 10 _ rfl;have zH:=i 11 _ rfl;have zI:=i 12 _ rfl;have zJ:=i 13 _ rfl;have zK:=i 14 _ rfl;have zL:=i 15 _ rfl;have I:=hU.trans (r.mono hU.size);have zl:=qH I;have HT:=qH ht;have j:=qH h;have HP:=qH hp;have LO:Hid (Cw 175 #[d_ R T U V X Y Z a6 b t a9 b0 b1 tx kv up,Iq w] l λe W'=>∃v,e=Rw v/\Hid (W'.ownsRow l.heap.size 9 1 v (iK tx.data.toList t w).length (cT (iK tx.data.toList t w)))/\Bq l W'):=vz R T U V X Y Z a6 b t a9 b0 b1 up tx kv w l (ht.below I) hs hw;have zj:Hid (∀s∈iK tx.data.toList t w,s.length<=3000000):=It _ _ _ (by rw[ep];exact hs) hw.2;obtain⟨o,zq⟩:=af (iK tx.data.toList t w);rw[zq]at LO zj⊢;obtain⟨m,hm⟩:=af (min o.length hh.toNat);have zU:min (o.length:Int) hh=(m:Int):=dg
 have zS:m<=o.length:=dg;have zu:Hid (o.take hh.toNat=o.take m):=by show _=_;rw[<-hm,List.take_eq_take_iff];omega
 rw[zu.out];clear zq hm ht hU I h hp zn N O;unfold Ee rv;unfold d_ at LO⊢;go_enter func100,ntmps100;go_wp2_with fail;clear z hA;refine LO.mono ?_;rintro e w2 ⟨v,rfl,HL,b2⟩;obtain⟨p,cp,rfl,zP,zo⟩:=L_ HL.out;have zt:=qH zo;have d:Hid (bG M l w2):=bG.below b2;obtain⟨y0,y1,y2,y3,y4,y5,y6,y7,q0,q1,q2,q3,q4⟩:=HS w2 d;have zv:=qH<|j.cv.keep ((b2.block M (by have:=zg.out;have:=G.out;omega)).trans (r.block M zm));clear LO HL zo b2 z0 z1 z2 z3 z4 z5 z6 z7 r0 r1 r2 r3 n0 n1 n2 n3 n4 n5 n6 n7 n8 n9 zG zH zI zJ zK zL i;have zT:m<=cp:=dg
 go_wp2;go_loopw[21] (λiv wr=>∃k:Nat,k<=m/\iv=Iq k/\Hid (Cv 46 wr M W H (Ag W H f g bd cx cy ca cb x w b (o.take k) y c))/\Hid (bG M w2 wr)) (λiv _=>m-(intOf iv).toNat);case atStart=>exact⟨0,aP _,rfl,zv,bG.refl _ _⟩
 case round=>
  obtain⟨k,hk,rfl,HV,S⟩:=hrel;by_cases zD:k<m
  ·have zr:(k:Int)<(m:Int):=dg
   obtain⟨gb,rfl,zQ,zB,hg⟩:=zt.resolve_left dg;have L:k<o.length:=dg;obtain⟨s,C⟩:=af o[k];have zX:s.length<=3000000:=by rw[<-C];exact zj _ (iB L)
   obtain⟨D,B⟩:=af (qC s (ak (aZ (aA s))) w b);have zF:=cM _ (eI (aA s)) (aZ (aA s)).length;rw[kq]at zF;have zO:=bS (aA s);have zV:=bm s;have zM:D.length<=100000000:=by rw[<-B];have:=Ez s (ak (aZ (aA s))) w b;omega
   have c0:wr.cell? (aq gb k)=some (.string ⟨s.toArray⟩):=by rw[<-C];exact(aO (a:=(aq gb k)) (S.block gb zB (by have:=zg.out;have:=G.out;omega))).trans (hg k L)
   have zh:Hid (Ag W H f g bd cx cy ca cb x w b (o.take (k+1)) y c=wrL W H f g bd cx cy ca cb x (y+k) D (Ag W H f g bd cx cy ca cb x w b (o.take k) y c)):=by show _=_;rw[gW L,w_,C,B,cF,I' dg]
   have F:Hid (∀u,bG M l u->aY u):=λu hu=>HT.below (hu.low hM (az zl.size (ad _)) zl);have zi:Hid (s.toArray.size=s.length/\D.toArray.size=D.length):=⟨At,At⟩;have AL:Hid (∀u,(u=wr\/u=wr.drew)->Cw 176 #[.string ⟨s.toArray⟩,Iq w,Iq b] u λe u'=>e=Rw (.string ⟨D.toArray⟩)/\Hid (Bq wr u')):=λu hu=>by
    have J:Bq wr u:=by
     rcases hu with rfl|rfl;·exact ac _ _
     ·exact(ac _ _).drew
    refine(Cm ⟨s.toArray⟩ w b u (F u ((d.trans S).trans (bG.below J))) (by show s.toArray.size<=_;rw[zi.1];omega) dg dg).mono ?_;rintro e u' ⟨rfl,q⟩;exact⟨by rw[<-B],J.trans (q.mono J.size)⟩
   have WR:Hid (∀u,Bq wr u->Cw 174 #[.agg #[Pq K,Iq f,Iq g,Iq bd,Iq cx,Iq cy,Iq ca,Iq cb],Iq x,Iq (y+k),.string ⟨D.toArray⟩] u λe u'=>e=Rw (.tuple #[])/\Hid (Cv 46 u' M W H (Ag W H f g bd cx cy ca cb x w b (o.take (k+1)) y c))/\Hid (bG M w2 u')):=λu hu=>by have Q:bG M w2 u:=S.trans (bG.below hu);have zC:=((d.trans Q).block K (zz006 j.klt r.size) j.ne).trans (r.block K j.klt);have zy:CS 196 46 u K M cap W H (Ag W H f g bd cx cy ca cb x w b (o.take k) y c):=⟨zC.trans j.kb,HV.keep (hu.block M HV.lt),j.ne,j.hc⟩;have zE:PAll W H (Ag W H f g bd cx cy ca cb x w b (o.take k) y c):=qi W H f g bd cx cy ca cb (P:=PAll W H) x w b _ y c (λy s c hc=>hc.wrL hW hH _ _ _ _ _ _ _ _ _ _) HP;refine(sj u zy hW hH zE (F u (d.trans Q)) x (y+k) f g bd cx cy ca cb ⟨D.toArray⟩ (by show D.toArray.size<=_;rw[zi.2];omega) dg zA zx).mono ?_;rintro e u' ⟨rfl,q1,q2⟩;exact⟨rfl,by rw[zh.out];exact q1,Q.trans q2⟩
   obtain⟨x0,x1,x2,x3,x4,x5,x6,x7,t0,t1,t2,t3,t4⟩:=HS wr (d.trans S);have zY:IntKind.i64.wrap (y+(k:Int))=y+k:=IntWalk.i64_in _ dg;clear hg C B zh HV F y0 y1 y2 y3 y4 y5 y6 y7 q0 q1 q2 q3 q4;go_wp2_with fail;go_region_held(λn=>n.cell? (aq A 0)=some (Pq K)/\n.cell? (aq A 1)=some (Iq f)/\n.cell? (aq A 2)=some (Iq g)/\n.cell? (aq A 3)=some (Iq bd)/\n.cell? (aq A 4)=some (Iq cx)/\n.cell? (aq A 5)=some (Iq cy)/\n.cell? (aq A 6)=some (Iq ca)/\n.cell? (aq A 7)=some (Iq cb)/\n.cell? (aq (A+1+1) 0)=some (Iq x)/\n.cell? (aq (A+1+1) 1)=some (Iq y)/\n.cell? (aq (A+1+1) 2)=some (Iq w)/\n.cell? (aq (A+1+1) 3)=some (Iq hh)/\n.cell? (aq (A+1) 8)=some (Iq b)) (go_keep) (first
    |(go_at_call 176;refine ag (AL _ (by first|exact .inl rfl|exact .inr rfl)) ?_;rintro e u1 ⟨rfl,zk⟩;obtain⟨d0,d1,d2,d3,d4,d5,d6,d7,e0,e1,e2,e3,e4⟩:=HS u1 ((d.trans S).trans (bG.below zk)))
    |(go_at_call 174;refine ag (WR _ zk) ?_;rintro e u2 ⟨rfl,zw,ze⟩;obtain⟨i0,i1,i2,i3,i4,i5,i6,i7,j0,j1,j2,j3,j4⟩:=HS u2 (d.trans ze)));all_goals
    go_wp2;go_roundw;case rel=>exact⟨k+1,zD,by go_num,zw,ze⟩
    case measure=>simp[intOf];omega
  ·have zr:¬(k:Int)<(m:Int):=dg
   obtain rfl:k=m:=dg;go_wp2;go_end0;exact⟨rfl,HV,(bG.below r).trans (d.trans S)⟩
end
def Bn(W H:Nat)(f g bd cx cy ca cb kd a6 a7 a8 b0:Int)(t:zzf)(x y w hh:Int)(c:zzd):Nat->Nat->Ce:=
 if kd=3/\a6=1/\2<=w/\2<=hh then OZ W H f g bd cx cy ca cb x y w hh (if 0<b0 then nS W H c x y w hh f g bd cx cy ca cb else c)
 else if kd=5/\1<=w then Ag W H f g bd cx cy ca cb x w a7 ((iK t a8 w).take hh.toNat) y (if 0<b0 then nS W H c x y w hh f g bd cx cy ca cb else c)
 else if 0<b0 then nS W H c x y w hh f g bd cx cy ca cb else c
theorem Hm{W H}{P:(Nat->Nat->Ce)->Prop}{f g bd cx cy ca cb i b d e a}{t}{x y w hh}{c}(k:∀c,P c->P (nS W H c x y w hh f g bd cx cy ca cb))(l:∀x y s c,P c->P (wrL W H f g bd cx cy ca cb x y s c))(h:P c):P (Bn W H f g bd cx cy ca cb i b d e a t x y w hh c):=by
 have j:P (if 0<a then nS W H c x y w hh f g bd cx cy ca cb else c):=by
  split;·grind
  ·exact h
 unfold Bn;split;·simp_all[EP]
 ·split;all_goals simp_all[qi]
section
variable{K M cap W H:Nat} {c:zzd}
theorem JQ w(h:CS 196 46 w K M cap W H c)(i:1<=W/\W<=400)(d:1<=H/\H<=400)(j:PAll W H c)x y a b f g bd cx cy ca cb:
 Cw 98 #[Pq K,rv x y a b,sv f g bd,rv cx cy ca cb] w λe w'=>e=Rw (.tuple #[])/\Cv 46 w' M W H (nS W H c x y a b f g bd cx cy ca cb)/\bG M w w':=
 rA w h i d j x y a b f g bd cx cy ca cb (dd W H x y a b cx cy ca cb).1 (dd W H x y a b cx cy ca cb).2.1 (dd W H x y a b cx cy ca cb).2.2.1 (dd W H x y a b cx cy ca cb).2.2.2 rfl
theorem DC(C t:AT)(h:CS 196 46 t K M cap W H c)(hW:1<=W/\W<=400)(hH:1<=H/\H<=400)(hp:PAll W H c)(ht:aY C)(hU:Bq C t)(hM:C.heap.size<=M)(f g bd cx cy ca cb:Int)(a D E F G I J i j k L d N up:Int)(tx:BY)(R:Fd)(x y w hh:Int)(hs:tx.size<=100000)(hx:-100000000000<=x/\x<=100000000000)(hy:-100000000000<=y/\y<=100000000000)(hw:0<=w/\w<=100000)(zv:0<=hh/\hh<=100000)(zi:-1000000000000<=cy/\cy<=1000000000000)(zh:-1000000000000<=cb/\cb<=1000000000000):
 Cw 62 #[Ee K f g bd cx cy ca cb,d_ a D E F G I J i j k L d N tx R up,rv x y w hh] t λe w'=>e=Rw (.tuple #[])/\Cv 46 w' M W H (Bn W H f g bd cx cy ca cb a i j k d tx.data.toList x y w hh c)/\bG M t w':=by
 have ze:=h.cv.lt;obtain⟨A,hA⟩:=af t.heap.size;obtain⟨b,n⟩:=af (((t.alloc (.cells #[Pq K,Iq f,Iq g,Iq bd,Iq cx,Iq cy,Iq ca,Iq cb] 148)).alloc (.cells #[Iq a,Iq D,Iq E,Iq F,Iq G,Iq I,Iq J,Iq i,Iq j,Iq k,Iq L,Iq d,Iq N,.string tx,R,Iq up] 140)).alloc (.cells #[Iq x,Iq y,Iq w,Iq hh] 93));have l:Hid (Bq t b):=by rw[<-n];exact((((Gr.refl t).alloc _).alloc _).alloc _).below
 have zg:b.heap[A]?=some (.cells #[Pq K,Iq f,Iq g,Iq bd,Iq cx,Iq cy,Iq ca,Iq cb] 148 (0,0)):=by rw[<-n,<-hA,bB _ _ _ (by rw[ai,ai];omega),bB _ _ _ (by simp_all)];exact heap_alloc_new _ _
 have zk:b.heap[A+1]?=some (.cells #[Iq a,Iq D,Iq E,Iq F,Iq G,Iq I,Iq J,Iq i,Iq j,Iq k,Iq L,Iq d,Iq N,.string tx,R,Iq up] 140 (0,0)):=by rw[<-n,<-hA,bB _ _ _ (by simp_all),<-World.size_alloc];exact heap_alloc_new _ _
 have B:b.heap[A+1+1]?=some (.cells #[Iq x,Iq y,Iq w,Iq hh] 93 (0,0)):=by rw[<-n,<-hA,<-World.size_alloc,<-World.size_alloc];exact heap_alloc_new _ _
 have zu:Hid (A+1+1<b.heap.size):=(aj.1 B).1;have zw:Hid (M<A):=by rw[<-hA];exact ze
 have HS:Hid (∀u,bG M b u->(u.cell? (aq A 0)=some (Pq K)/\u.cell? (aq A 1)=some (Iq f)/\u.cell? (aq A 2)=some (Iq g)/\u.cell? (aq A 3)=some (Iq bd)/\u.cell? (aq A 4)=some (Iq cx)/\u.cell? (aq A 5)=some (Iq cy)/\u.cell? (aq A 6)=some (Iq ca)/\u.cell? (aq A 7)=some (Iq cb))/\(u.cell? (aq (A+1) 0)=some (Iq a)/\u.cell? (aq (A+1) 1)=some (Iq D)/\u.cell? (aq (A+1) 2)=some (Iq E)/\u.cell? (aq (A+1) 3)=some (Iq F)/\u.cell? (aq (A+1) 4)=some (Iq G)/\u.cell? (aq (A+1) 5)=some (Iq I)/\u.cell? (aq (A+1) 6)=some (Iq J)/\u.cell? (aq (A+1) 7)=some (Iq i)/\u.cell? (aq (A+1) 8)=some (Iq j)/\u.cell? (aq (A+1) 9)=some (Iq k)/\u.cell? (aq (A+1) 10)=some (Iq L)/\u.cell? (aq (A+1) 11)=some (Iq d)/\u.cell? (aq (A+1) 12)=some (Iq N)/\u.cell? (aq (A+1) 13)=some (.string tx)/\u.cell? (aq (A+1) 14)=some (R)/\u.cell? (aq (A+1) 15)=some (Iq up))/\u.cell? (aq (A+1+1) 0)=some (Iq x)/\u.cell? (aq (A+1+1) 1)=some (Iq y)/\u.cell? (aq (A+1+1) 2)=some (Iq w)/\u.cell? (aq (A+1+1) 3)=some (Iq hh)):=λu hu=>by
  have e1:=(hu.block A rn dg).trans zg;have e2:=(hu.block (A+1) rn dg).trans zk;have e3:=(hu.block (A+1+1) zu dg).trans B;refine⟨⟨?_,?_,?_,?_,?_,?_,?_,?_⟩,⟨?_,?_,?_,?_,?_,?_,?_,?_,?_,?_,?_,?_,?_,?_,?_,?_⟩,?_,?_,?_,?_⟩;all_goals first
   |(rw[Lib.cell_of_heap e1];rfl)
   |(rw[Lib.cell_of_heap e2];rfl)
   |(rw[Lib.cell_of_heap e3];rfl)
 obtain⟨⟨z0,z1,z2,z3,z4,z5,z6,z7⟩,⟨n0,n1,n2,n3,n4,n5,n6,n7,n8,n9,zl,zm,zn,zo,zq,zr⟩,r0,r1,r2,r3⟩:=HS b (bG.refl _ _);have z:=hU.trans (l.mono hU.size);have U:Hid (∀u,bG M b u->Bq C u):=λu hu=>hu.low hM z.size z;have v:Hid (∀c1 u,bG M b u->Cv 46 u M W H c1->CS 196 46 u K M cap W H c1):=λc1 u hu hv=>⟨((hu.block K (zz006 h.klt l.size) h.ne).trans (l.block K h.klt)).trans h.kb,hv,h.ne,h.hc⟩;have X:Hid (Cv 46 b M W H c):=h.cv.keep (l.block M ze);obtain⟨c1,r⟩:=af (if 0<d then nS W H c x y w hh f g bd cx cy ca cb else c);have T:Hid (PAll W H c1):=by
  rw[<-r];show PAll W H (if 0<d then _ else c);split;·exact hp.filX hW hH _ _ _ _ _ _ _ _ _ _ _
  ·exact hp
 have Y:Hid (2<=w->2<=hh->∀u,bG M b u->Cv 46 u M W H c1->Cw 99 #[Ee K f g bd cx cy ca cb,rv x y w hh] u λe p=>e=Rw (.tuple #[])/\Hid (Cv 46 p M W H (OZ W H f g bd cx cy ca cb x y w hh c1))/\Hid (bG M b p)):=λq1 q2 u hu hv=>(nX C u (v c1 u hu hv) hW hH T ht (U u hu) hM f g bd cx cy ca cb x y w hh hx hy dg dg zi zh).mono λe p ⟨h1,h2,h3⟩=>⟨h1,h2,hu.trans h3⟩;have Z:Hid (∀u,bG M b u->Cv 46 u M W H c1->Cw 100 #[Ee K f g bd cx cy ca cb,d_ a D E F G I J i j k L d N tx R up,rv x y w hh] u λe p=>e=Rw (.tuple #[])/\Hid (Cv 46 p M W H (Ag W H f g bd cx cy ca cb x w j ((iK tx.data.toList k w).take hh.toNat) y c1))/\Hid (bG M b p)):=λu hu hv=>(qV C u (v c1 u hu hv) hW hH T ht (U u hu) hM f g bd cx cy ca cb a D E F G I J i j k L d N up tx R x y w hh hs hx hy hw zv zi zh).mono λe p ⟨h1,h2,h3⟩=>⟨h1,h2,hu.trans h3⟩;have FI:Hid (0<d->Cw 98 #[Pq K,rv x y w hh,sv f g bd,rv cx cy ca cb] b λe p=>e=Rw (.tuple #[])/\Hid (Cv 46 p M W H c1)/\Hid (bG M b p)):=λhb=>by rw[<-r,if_pos hb];exact JQ b (v c b (bG.refl _ _) X) hW hH hp x y w hh f g bd cx cy ca cb
 have zt:Hid (¬0<d->c1=c):=λhb=>rn;have o:((a==3)=true/\(i==1)=true/\2<=w/\2<=hh/\Hid (Bn W H f g bd cx cy ca cb a i j k d tx.data.toList x y w hh c=OZ W H f g bd cx cy ca cb x y w hh c1))\/((a==3)=true/\(a==5)=false/\(i==1)=true/\2<=w/\¬2<=hh/\Hid (Bn W H f g bd cx cy ca cb a i j k d tx.data.toList x y w hh c=c1))\/((a==3)=true/\(a==5)=false/\(i==1)=true/\¬2<=w/\Hid (Bn W H f g bd cx cy ca cb a i j k d tx.data.toList x y w hh c=c1))\/((a==3)=true/\(a==5)=false/\(i==1)=false/\Hid (Bn W H f g bd cx cy ca cb a i j k d tx.data.toList x y w hh c=c1))\/((a==3)=false/\(a==5)=true/\1<=w/\Hid (Bn W H f g bd cx cy ca cb a i j k d tx.data.toList x y w hh c=Ag W H f g bd cx cy ca cb x w j ((iK tx.data.toList k w).take hh.toNat) y c1))\/((a==3)=false/\(a==5)=true/\¬1<=w/\Hid (Bn W H f g bd cx cy ca cb a i j k d tx.data.toList x y w hh c=c1))\/((a==3)=false/\(a==5)=false/\Hid (Bn W H f g bd cx cy ca cb a i j k d tx.data.toList x y w hh c=c1)):=by
  unfold Bn;rw[r];by_cases Q:a=3;·grind
  ·grind
 obtain⟨cz,zj⟩:=af (Bn W H f g bd cx cy ca cb a i j k d tx.data.toList x y w hh c);rw[zj]at o⊢;clear h hp ht hU z zg zk B r zj;unfold Ee rv at Y;unfold Ee rv d_ at Z;unfold sv rv at FI;unfold Ee d_ rv;go_enter func62,ntmps62;by_cases hb:0<d;focus go_wp2_with fail;clear n hA;refine(FI hb).mono ?_;rintro e u1 ⟨rfl,q,m⟩;clear z0 z1 z2 z3 z4 z5 z6 z7 n0 n1 n2 n3 n4 n5 n6 n7 n8 n9 zl zm zn zo zq zr r0 r1 r2 r3;obtain⟨⟨z0,z1,z2,z3,z4,z5,z6,z7⟩,⟨n0,n1,n2,n3,n4,n5,n6,n7,n8,n9,zl,zm,zn,zo,zq,zr⟩,r0,r1,r2,r3⟩:=HS u1 m
 rotate_left;focus
  have q:Hid (Cv 46 b M W H c1):=by rw[zt hb];exact X
  have m:Hid (bG M b b):=bG.refl _ _
 all_goals
  rcases o with⟨O,P,Q,k4,s⟩|⟨O,k0,P,Q,k4,s⟩|⟨O,k0,P,Q,s⟩|⟨O,k0,P,s⟩|⟨O,P,Q,s⟩|⟨O,P,Q,s⟩|⟨O,P,s⟩;all_goals
   go_wp2_with(first|(go_at_call 99;refine ag (Y Q k4 _ m q) ?_;rintro e u2 ⟨rfl,V,S⟩)|(go_at_call 100;refine ag (Z _ m q) ?_;rintro e u2 ⟨rfl,V,S⟩));go_end0;first
    |exact⟨rfl,by rw[s.out];exact V,(bG.below l).trans S⟩
    |exact⟨rfl,by rw[s.out];exact q,(bG.below l).trans m⟩
end
