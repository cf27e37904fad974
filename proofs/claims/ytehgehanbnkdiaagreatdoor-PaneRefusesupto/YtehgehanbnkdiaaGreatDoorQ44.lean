import Derived.CallsIn
import Derived.OrdersIn
import Derived.OrdersHeld
import Derived.TacticsIn
import Derived.RangeFuncCalls
import Derived.Deep.RegionHeld
import Derived.Test.YtehgehanbnkdiaaGreatDoorQ00
import Derived.Lib.Bytealg
import Derived.Test.YtehgehanbnkdiaaGreatDoorQ43
import Derived.Test.YtehgehanbnkdiaaGreatDoorQ01
import Derived.Test.YtehgehanbnkdiaaGreatDoorQ39
import Derived.Test.YtehgehanbnkdiaaGreatDoorQ37
set_option linter.all false
set_option maxRecDepth 100000
set_option maxHeartbeats 16000000
namespace Go.Proofs.YtehgehanbnkdiaaGreatDoor
open Go.RowKit Go.Sort Go.Proofs.Tryz
section
open Go
def oG(o:Oper):Bool:=match o.op with|.defer _=>false|_=>true
def IC{P}{b}{Q}{n l i}{K j}{a}{w}(hd:b.all oG=true)(y:¬LetsOut Q)(k:∀a w,K a w->j a w)(h:wpOp P b Q i K a w):wpOpIn (Fence.wide.inRound l) n P b Q i j a w:=by
 unfold wpOp at h;unfold wpOpIn;cases p:b[i]? with
 |none=>rw[p]at h;exact k _ _ h
 |some o=>
  rw[p]at h;dsimp only at h|-;have z:∀c,o.op≠.defer c:=λc B=>by grind[oG]
  split at h
  .rename_i m;rw[if_pos m];rcases h with h|⟨_,h⟩;case inr=>exact absurd h y
   refine⟨λ_ _=>trivial,?_⟩;show o.uponIn _ n P a j Q ((Oper.semAt (some l) a.eval o).run P w);rw[Oper.semAt_some l a.eval o z];unfold Oper.wp at h;generalize(execOp a.eval o).run P w=r at*;cases r with
   |ok x w'=>
    cases x<;>simp only[Oper.upon,Oper.uponIn]at h|-;case value u=>grind
    case skip=>grind
    case defer d=>grind
    case enter f args=>refine⟨λq=>(by cases q),CallsIn.inRound l (callsIn_wide.2 (ag h λe A C=>?_))⟩;grind
    case row row args=>refine⟨λq=>(by cases q),λc t _=>?_⟩;obtain⟨v,w',r,s⟩:=h c t;exact⟨v,w',k _ _ r,stepsIn_wide.2 s⟩
   |halt x w'=>cases x<;>simp only[Oper.upon,Oper.uponIn]at h|-;omega
  .rename_i m;rw[if_neg m];exact⟨λ_ _=>trivial,k _ _ h⟩
def rA{P}{d}{Q}{n l}{j}(hd:d.all oG=true)(e:¬LetsOut Q):∀  fuel   b   a   w,wpAny P j d Q fuel b a w->wpAnyIn (Fence.wide.inRound l) n P j d Q fuel b a w
 |0,_,_,_,h=>h
 |fuel+1,_,_,_,h=>⟨h.1,λi hi=>IC hd e (λa w=>rA hd e fuel _ a w) (h.2 i hi)⟩
def tW{P}{b}{Q}{n l id}{S}{a}{w}(hd:b.all oG=true)(d:¬LetsOut Q)(e:P.follows .mixedOrders=true)(hS:S w.drew)(h:S w.drew->wpAnyH P .any b Q S b.size (Array.replicate b.size false) a w.drew):(Code.region id b true).wpIn (Fence.wide.inRound l) n P Q a w:=
 wpIn_region_any e (rA hd d _ _ _ _ (wpAny_of_held _ _ _ _ (h hS)))
end
section
open Go.Shelf
attribute[local go_sem] Oper.semAt_some
def nj:∀  t,(Lib.indexByte t 10=-1/\∀x∈t,x≠10)\/∃a b,t=a++10::b/\(∀x∈a,x≠10)/\Lib.indexByte t 10=(a.length:Int)
 |[]=>.inl ⟨rfl,λx d=>by cases d⟩
 |c::t=>by
  by_cases e:c=10;.right;refine⟨[],t,by rw[e];rfl,λx d=>(by cases d),?_⟩;unfold Lib.indexByte;rw[e];rfl
  .have j:(c==(10:UInt8))=false:=by simpa using e
   rcases nj t with⟨h,i⟩|⟨a,b,h,i,k⟩
   .left;refine⟨?_,λx d=>?_⟩;.unfold Lib.indexByte;grind
    grind
   .right;refine⟨c::a,b,rn,λx d=>?_,?_⟩;.grind
    .unfold Lib.indexByte;grind
def qY(s:BY)(c:Int)(w:AT):Cw 363 #[.string s,.int .u8 c] w λe w'=>e=Rw (Iq (Lib.indexByte s.data.toList c.toNat.toUInt8))/\w'=w:=by go_enter func363,ntmps363;go_wp2;rw[run_callFunc_extern func373 pt pt pt (e:=Extern.BytealgIndexByte.indexByte) pt,Lib.run_indexByteString];simp only[Result.andThen];rw[xJ];go_wp2;go_ret;simp_all
def Eg(s:BY)(w:AT):Cw 345 #[.string s,.string ⟨#[10]⟩] w λe w'=>e=Rw (Iq (Lib.indexByte s.data.toList 10))/\w'=w:=by
  have C:Hid (∀w,Cw 363 #[.string s,.int .u8 10] w λe w'=>e=Rw (Iq (Lib.indexByte s.data.toList 10))/\w'=w):=λw=>qY s 10 w;have a:(({data:=#[10]}:BY)[0]'(by show 0<1;omega))=10:=rfl;go_enter func345,ntmps345;go_wp2_with(go_at_call 363;refine Ut (C _) ?_;rintro b rfl);all_goals
    go_ret;first
      |exact⟨rfl,rfl⟩
      | (refine⟨?_,rfl⟩;have h:([10]==s.toList)=true:=by assumption
         have e:s.data.toList=[10]:=by rw[<-Lib.toList_data];exact(beq_iff_eq.1 h).symm
         rw[e];rfl)
def GQ(s:BY)(w:AT):Cw 327 #[.string s,.string ⟨#[10]⟩] w λe w'=>e=Rw (Iq (Lib.indexByte s.data.toList 10))/\w'=w:=by have C:=qH<|λw=>Eg s w;go_enter func327,ntmps327;go_wp2_with(go_at_call 345;refine Ut (C _) ?_;rintro a rfl);go_ret;simp_all
def iV(b0 b1 b2:Nat)(W W':AT):Prop:=W'.heap[b0]?=W.heap[b0]?/\W'.heap[b1]?=W.heap[b1]?/\W'.heap[b2]?=W.heap[b2]?
def iV.trans{a b d}{A B C}(h:iV a b d A B)(k:iV a b d B C):iV a b d A C:=⟨k.1.trans h.1,k.2.1.trans h.2.1,k.2.2.trans h.2.2⟩
def EM(t:zzf):Array Fd:=#[.string ⟨t.toArray⟩]
def Is(b:Nat)(W:AT):Nat:=match W.cell? (aq b 0)with
 |some (.string s)=>s.size
 |_=>0
def Gy(a b:zzf)n(d:n=a.length):(⟨(a++b).toArray⟩:BY).extract 0 n=⟨a.toArray⟩:=by subst d;apply jx;simp_all
def DG(a b:zzf)n k(e:n=a.length)(d:k=(a++b).length):(⟨(a++b).toArray⟩:BY).extract n k=⟨b.toArray⟩:=by subst e;subst d;apply jx;simp_all
def me(n:Nat)(hn:3<=n)(i h j:Nat)(t:zzf)(ht:t.length<=1000000)(Q:AT)(zg:i≠h)(zi:j≠h)(hp:Q.heap[i]?=some (.cells #[.string ⟨#[10]⟩] 9 (0,0)))(hs:Q.heap[h]?=some (.cells #[.string ⟨t.toArray⟩] 9 (0,0)))(hv:Q.heap[j]?=some (.cells #[Iq 0] 3 (0,0))):
 Fp Fence.wide n prog 325 #[Pq i,Pq h,Pq j] EM h (iV i h j) (λxs=>xs=cZ t) (λx=>x.length<=t.length) (t.length+1) Q:=by
 intro k0 J W hW hJ hY h0;have v:=(hW.block i (aj.1 hp).1).trans hp;have I:=(hW.block h (aj.1 hs).1).trans hs;have L:=(hW.block j (aj.1 hv).1).trans hv;have D:Hid (W.heap[i]?=some (.cells #[.string ⟨#[10]⟩] 9 (0,0))/\W.heap[h]?=some (.cells #[.string ⟨t.toArray⟩] 9 (0,0))/\W.heap[j]?=some (.cells #[Iq 0] 3 (0,0))):=⟨v,I,L⟩;have Y:W.cell? (aq i 0)=some (.string ⟨#[10]⟩):=by simp[World.cell?,v]
 have HJ:=qH<|hJ;have HY:Hid (∀d x X,J d X->d.length<t.length+1->x.length<=t.length->YieldAt Fence.wide (n-1) prog k0 (EM x) X λe W'=>e=.returned (.bool true)/\J (d++[x]) W'/\iV i h j X W'):=hY;have U:Hid ((cZ t).length<=t.length+1):=by have k:=mP t;have u:=List.count_le_length (a:=(10:UInt8)) (l:=t);show _<=_;omega
 have C:=qH<|h0;clear hp hs hv v I L hJ hY h0;refine callsIn_of_wp func325 rfl trivial ?_ rfl;simp only[ntmps325,iS,cV,eI,Nat.reduceAdd,Nat.reduceSub,nX,nY,nZ,n_,od,kM];gi_wp2;gi_loopw[7] (λ_ wr=>∃(x:zzf) (d:List (List UInt8)),Hid (d++cZ x=cZ t)/\x.length<=t.length/\Hid (wr.heap[i]?=some (.cells #[.string ⟨#[10]⟩] 9 (0,0))/\wr.heap[h]?=some (.cells #[.string ⟨x.toArray⟩] 9 (0,0))/\wr.heap[j]?=some (.cells #[Iq 0] 3 (0,0)))/\Hid (J d wr)) (λ_ wr=>Is h wr);.exact⟨t,[],rfl,LE,D,C⟩
 obtain⟨x,d,o,zj,s,p⟩:=hrel;clear Y D C;have G:d.length<t.length+1:=by have k:=congrArg List.length o;rw[aN]at k;have u:=mP x;have Z:=U.out;omega
 have Y:wr.cell? (aq i 0)=some (.string ⟨#[10]⟩):=by simp[World.cell?,s.1]
 have cs:wr.cell? (aq h 0)=some (.string ⟨x.toArray⟩):=by simp[World.cell?,s.2.1]
 have cv:wr.cell? (aq j 0)=some (Iq 0):=by simp[World.cell?,s.2.2]
 have z:Hid (Calls prog 327 #[.string ⟨x.toArray⟩,.string ⟨#[10]⟩] wr λe w'=>e=.returned (Iq (Lib.indexByte x 10))/\w'=wr):=GQ _ _;rcases nj x with⟨k,u⟩|⟨a,b,k,u,Z⟩;.rw[k]at z;have V:=qH<|paras_one x u;obtain⟨fn,O,assign,body,hy,hR⟩:=HY d x wr p G zj;dsimp only[EM]at hy;have P:=qH<|hR;clear hR k u s;gi_wp2_with fail;refine⟨trivial,λ_=>dg,(callsIn_wide.2 z).mono ?_⟩;rintro e w5 ⟨rfl,y⟩;obtain rfl:=y.symm;clear z;gi_wp2;refine⟨λ_=>dg,P.mono ?_⟩;rintro e A ⟨rfl,q,m⟩;gi_wp2;go_end0;exact⟨⟨_,rfl⟩,_,by rw[<-o.out,V.out],q⟩
 .rw[Z]at z;have V:Hid (cZ x=a::cZ b):=qH<|by rw[k];exact sj a b u
  have F:x.length=a.length+1+b.length:=by rw[k];simp;omega
  have ze:=p.out;obtain⟨fn,O,assign,body,hy,hR⟩:=HY d a wr p G dg;dsimp only[EM]at hy;have P:=qH<|hR;have zh:(⟨x.toArray⟩:BY).size=x.length:=by simp[ByteArray.size]
  have e1:(⟨x.toArray⟩:BY).extract 0 a.length=⟨a.toArray⟩:=by rw[k];exact Gy a (10::b) _ rfl
  have e2:(⟨x.toArray⟩:BY).extract (a.length+1) (a.length+1+b.length)=⟨b.toArray⟩:=by rw[<-F];rw[k,show a++10::b=(a++[10])++b by simp];exact DG (a++[10]) b _ _ At rfl
  clear hR k u Z;gi_wp2_with fail;refine⟨trivial,λ_=>dg,(callsIn_wide.2 z).mono ?_⟩;rintro e w5 ⟨rfl,y⟩;obtain rfl:=y.symm;clear z;gi_wp2;refine⟨λ_=>dg,P.mono ?_⟩;clear P hy;rintro e A ⟨rfl,q,m⟩;have w:=m.1.trans s.1;have r:=m.2.1.trans s.2.1;have N:=m.2.2.trans s.2.2;have zm:A.cell? (aq i 0)=some (.string ⟨#[10]⟩):=by simp[World.cell?,w]
  have zn:A.cell? (aq h 0)=some (.string ⟨x.toArray⟩):=by simp[World.cell?,r]
  have zo:A.frozen? (aq h 0)=false:=frozen_of_row _ _ _ _ _ r;obtain⟨B,E⟩:=af (A.setCell (aq h 0) (.string ⟨b.toArray⟩));have T:Hid (B.heap[i]?=some (.cells #[.string ⟨#[10]⟩] 9 (0,0))/\B.heap[h]?=some (.cells #[.string ⟨b.toArray⟩] 9 (0,0))/\B.heap[j]?=some (.cells #[Iq 0] 3 (0,0))):=by rw[<-E];exact⟨(aM _ (aq h 0) _ i zg).trans w,Boxed.set (t:=9) (.string ⟨b.toArray⟩) r,(aM _ (aq h 0) _ j zi).trans N⟩
  have zk:Hid (J (d++[a]) B):=by rw[<-E];exact HJ _ _ _ _ q (grownBy_setCell' A h _) (.inr rfl)
  have zl:Hid ((d++[a])++cZ b=cZ t):=qH<|by rw[<-o.out,V.out];simp
  have R:Hid (Is h B=b.length):=by
   show _=_;have:B.cell? (aq h 0)=some (.string ⟨b.toArray⟩):=by simp[World.cell?,T.2.1]
   unfold Is;rw[this];simp[ByteArray.size]
  have S:Hid (Is h wr=x.length):=qH<|by unfold Is;rw[cs];exact zh
  clear w r N q m Y cs cv s p ze;gi_wp2;go_roundw;.grind
  .rw[R.out,S.out];omega
attribute[local go_sem] Oper.semAt_some
def splitSeq0_any(s:BY)(W:AT):
 Cw 288 #[.string s,.string ⟨#[10]⟩,Iq 0] W λe w'=>e=Rw (.func (.func 325) #[] #[Pq (W.heap.size+1),Pq W.heap.size,Pq (W.heap.size+1+1)])/\w'=((W.alloc (.cells #[.string s] 9)).alloc (.cells #[.string ⟨#[10]⟩] 9)).alloc (.cells #[Iq 0] 3):=by go_enter func288,ntmps288;go_wp2;go_ret;simp_all
def mf(s:BY)(W:AT):
 Cw 239 #[.string s,.string ⟨#[10]⟩] W λe w'=>e=Rw (.func (.func 325) #[] #[Pq (W.heap.size+1),Pq W.heap.size,Pq (W.heap.size+1+1)])/\w'=((W.alloc (.cells #[.string s] 9)).alloc (.cells #[.string ⟨#[10]⟩] 9)).alloc (.cells #[Iq 0] 3):=by have C:=qH<|splitSeq0_any s;go_enter func239,ntmps239;go_wp2_with(go_at_call 288;refine Ut (C _) ?_;rintro a rfl);go_ret;simp_all
def rW{d e h B}(i:d<B)(j:e<B)(k:h<B)W l x(o:B<=l):iV d e h W (W.putObj l x):=by have n:=grownBy_putObj' W l x;have a:∀b,b<B->(W.putObj l x).heap[b]?=W.heap[b]?:=λb m=>World.putObj_heap_other dg;exact⟨a _ i,a _ j,a _ k⟩
def KJ t:0<=pd t/\pd t<=2*t.length:=by unfold pd;have h:=eV (az t);have a:=(cU _ h (ba (az t)).length);grind[ci,az,bC]
def AG(s:BY)(W:AT)(ht:aY W)(P:s.size<=4000):
 Calls prog 187 #[.string s] W λe a=>e=.returned (Iq (Jq s.data.toList))/\Below W.heap.size W a:=by
 obtain⟨t,r⟩:=af s.data.toList;have Z:s=⟨t.toArray⟩:=by rw[<-r]
 have zm:t.length<=4000:=by rw[<-r,eK];exact P
 rw[r];subst Z;clear r P;refine(callsIn_wide (n:=6)).1 ?_;refine callsIn_of_wp_marks func187 rfl trivial ?_ rfl;simp only[ntmps187,iS,cV,eI,Nat.reduceAdd,Nat.reduceSub,nX,nY,nZ,n_,od,kM];gi_wp2_with fail;refine⟨trivial,(callsIn_wide.2 (mf ⟨t.toArray⟩ _)).mono ?_⟩;rintro e w' ⟨rfl,rfl⟩;obtain⟨S,hS⟩:=af W.heap.size;have bO:=Boxed.new W 3 (Iq 0);obtain⟨l,i⟩:=af ((((W.alloc (.cells #[Iq 0] 3)).alloc (.cells #[.string ⟨t.toArray⟩] 9)).alloc (.cells #[.string ⟨#[10]⟩] 9)).alloc (.cells #[Iq 0] 3));have T:Boxed l S 3 (Iq 0):=by rw[<-i,<-hS];exact((bO.alloc _).alloc _).alloc _
 have V:Boxed l (S+1) 9 (.string ⟨t.toArray⟩):=by rw[<-i,<-hS];have:=Boxed.new (W.alloc (.cells #[Iq 0] 3)) 9 (.string ⟨t.toArray⟩);rw[ai]at this;exact(this.alloc _).alloc _
 have U:Boxed l (S+2) 9 (.string ⟨#[10]⟩):=by rw[<-i,<-hS];have:=Boxed.new ((W.alloc (.cells #[Iq 0] 3)).alloc (.cells #[.string ⟨t.toArray⟩] 9)) 9 (.string ⟨#[10]⟩);rw[ai,ai]at this;exact this.alloc _
 have X:Boxed l (S+3) 3 (Iq 0):=by rw[<-i,<-hS];have:=Boxed.new (((W.alloc (.cells #[Iq 0] 3)).alloc (.cells #[.string ⟨t.toArray⟩] 9)).alloc (.cells #[.string ⟨#[10]⟩] 9)) 3 (Iq 0);rw[ai,ai,ai]at this;exact this
 have G:Below W.heap.size W l:=by rw[<-i];exact((((Gr.refl W).alloc _).alloc _).alloc _).alloc _|>.below
 have zl:l.heap.size=S+4:=by rw[<-i];simp;omega
 rw[ai,i];gi_wp2;rw[hS]at G;refine kB rfl dg (gf:=325) (lb:=#[Pq (S+1+1),Pq (S+1),Pq (S+1+1+1)]) rfl trivial (enters_of func325 pt rfl)
  (me 5 dg (S+1+1) (S+1) (S+1+1+1) t dg l dg dg U V X) dg iV.trans (rW dg dg dg) Ok (λ_=>rfl)
  (λd a=>(Boxed a S 3 (Iq (J' (d.map pd)))/\Below S W a)/\l.heap.size<=a.heap.size)
  (OwnFrom.and (OwnFrom.and (Own.from (boxed_own S 3 (λd:List (List UInt8)=>Iq (J' (d.map pd)))) _) (ownFrom_below dg dg)) (λ_ _ _ _ h L _=>aA h L.size))
  (λd A B row ⟨h,h2⟩ L hr=>⟨⟨h.1.kept L (λe=>rn),h.2.grown L dg (λq hq=>rn)⟩,aA h2 L.size⟩)
  ⟨⟨T,G⟩,LE⟩
  (λx a' a=>a'={tmps:=#[.string ⟨t.toArray⟩,undef,Iq 0,Pq S,.string ⟨x.toArray⟩,.string ⟨t.toArray⟩,.func (.func 325) #[] #[Pq (S+1+1),Pq (S+1),Pq (S+1+1+1)],.string ⟨x.toArray⟩,undef,undef,undef,undef,undef],defers:=[]})
  (λ_ _ _ _ _ _ P _ _=>P)
  ?assign ?body ?done;case assign=>rintro k0 d x a K hI I;dsimp only[EM]at I|-;gi_wp2;exact I _ _ (KeepsFrom.refl _ _) ⟨rfl,rfl,rfl⟩ hI rfl
 case body=>
  rintro k0 d x a' a ⟨⟨j,F⟩,J⟩ rfl zk zn;have hc:=j.cell;have hf:=j.frozen;have zj:=F.size;have zh:(⟨x.toArray⟩:BY).size=x.length:=by simp[ByteArray.size]
  obtain⟨M,O⟩:=af (J' (d.map pd));have Y:=KJ x;obtain⟨y,hy⟩:=af (pd x);have R:Hid (J' ((d++[x]).map pd)=max M y):=qH<|by rw[mi,C5,List.map_nil,Iw,O,hy]
  have CO:Hid (∀u,(u=a\/u=a.drew)->Calls prog 241 #[.string ⟨x.toArray⟩] u λe Q=>e=.returned (Iq y)/\Hid (Below a.heap.size a Q)/\Q.cell? (aq S 0)=some (Iq M)/\Q.frozen? (aq S 0)=false):=λu hu=>by
   have z:Below a.heap.size a u:=by
    rcases hu with rfl|rfl;.exact Ok
    .exact Ok.drew
   have ze:=(ht.below (w':=a) rn).below z;refine Ut (nc ⟨x.toArray⟩ u ze (by rw[zh];omega)) ?_;rintro Q q;have v:=z.trans (q.mono z.size);refine⟨by rw[<-hy];rfl,v,?_,?_⟩;.rw[<-O];exact(v.cell (p:=(aq S 0)) j.lt).trans j.cell
   .exact(kE (v.block S j.lt)).trans j.frozen
  have E:Hid (∀u,Below a.heap.size a u->tk l.heap.size (iV (S+1+1) (S+1) (S+1+1+1)) (λd a=>(Boxed a S 3 (Iq (J' (d.map pd)))/\Below S W a)/\l.heap.size<=a.heap.size) (d++[x]) a .normal {tmps:=#[],defers:=[]} (u.setCell (aq S 0) (Iq (max M y)))):=λu hu=>by
   have zg:Boxed u S 3 (Iq (J' (d.map pd))):=(hu.block S j.lt).trans j;have C:∀b,b≠S->b<a.heap.size->(u.setCell (aq S 0) (Iq (max M y))).heap[b]?=a.heap[b]?:=λb hb hl=>(aM u (aq S 0) _ b hb).trans (hu.block b hl);refine⟨⟨aA hu.size At,λk o hk ho _=>?_⟩,⟨C _ dg dg,C _ dg dg,C _ dg dg⟩,⟨by rw[R.out];exact zg.set _,?_⟩,aA J (aA hu.size At)⟩;.grind
   .exact(F.trans (hu.mono dg)).setCell (p:=(aq S 0)) LE _
  rw[O]at hc;rw[hy]at Y;have zi:prog.follows .mixedOrders=true:=pt;clear O hy j F;gi_wp2_with fail;gi_region_with_o(refine⟨trivial,(CallsIn.inRound k0 (callsIn_wide.2 (CO _ rn))).mono ?_⟩;rintro e wq ⟨rfl,bq,cq,fq⟩);all_goals(gi_wp2_with fail)
  all_goals exact E wq bq
 case done=>rintro D ys a hD rfl ⟨⟨j,F⟩,J⟩ I;have hc:=j.cell;gi_wp2;refine⟨At,.inl ⟨_,_,rfl,run_takeDeferred I,?_⟩⟩;exact⟨_,results_tmp rfl _ _ _,rfl,by rw[hS];exact F.trans (belowK_b (w:=W) dg a D _ _ dg I rfl rfl)⟩
attribute[local go_sem] Oper.semAt_some
def c_(l:List (List UInt8)):List Fd:=l.map λr=>.string ⟨r.toArray⟩
theorem nJ l x:c_ (l++[x])=c_ l++[.string ⟨x.toArray⟩]:=by simp[c_]
def iU(t:zzf)(wrap w:Int):List (List UInt8):=if wrap=1 then(bJ (ba (az t)) w).map (·.T)else(cZ t).map λp=>qT (one (ba (az p))) w
def rZ:∀  a   k  (b:k<a.length)  t   u,(cF a[k])[t]?=some u->(fW a)[k*5+t]?=some u
 |[],k,b,_,_,_=>rn
 |x::a,0,_,t,u,h=>by grind[cF,fW]
 |x::a,k+1,b,t,u,h=>by have d:(cF x).length=5:=rfl;show(cF x++fW a)[(k+1)*5+t]?=_;rw[xG dg,d,show(k+1)*5+t-5=k*5+t by omega];exact rZ a k rn t u h
def wU:(prog.info? 9).map (λi=>(i.zero,i.size,i.bytes))=some (some (.string ⟨#[]⟩),1,16):=pt
def Si(W W':AT):Prop:=∀(j:Nat) (c:Array Fd) (fz:Nat×Nat),W.heap[j]?=some (.cells c 341 fz)->W'.heap[j]?=some (.cells c 341 fz)
def M7{W:AT}{d k}{v}{i}(h:W.ownsRow d 9 1 v k i){j}{c}{t}{b}(m:W.heap[j]?=some (.cells c t b))(n:t≠9):some j≠v.ownBlock:=by
 rcases h.2 with⟨rfl,_⟩|⟨g,cap,a,rfl,_,l,_⟩;.simp[Value.ownBlock]
 .intro e;obtain rfl:j=g:=by simpa[Value.ownBlock]using e
  grind
def LV{W l}{o B k}{v m}{p}{i}(n:Boxed W B 171 v)(b:W.ownsRow o 9 1 v k p)(a:(W.alloc i).grownBy l v.ownBlock):Si W (l.setCell (aq B 0) m):=λj c q e=>by
 have h:=(aj.1 e).1;have d:j≠B:=by rintro rfl;rw[show W.heap[j]?=_ from n]at e;cases e
 rw[aM l (aq B 0) m j d];exact(a.block j (by rw[ai];omega) (M7 b e (by decide))).trans ((bG _ _ _ h).trans e)
def Pk{W:AT}{B}{v}{b}(h:W.ownsRow B 341 5 v b.length (fW b)):∃p c,v=.slice p b.length c/\(b.length=0\/∃g a,p=some (aq g 0)/\W.heap[g]?=some (.cells a 341 (0,0))/\∀k (d:k<b.length)  t  u,(cF b[k])[t]?=some u->W.cell? (aq g (k*5+t))=some u):=by
 rcases h.2 with⟨rfl,l⟩|⟨g,cap,a,rfl,_,e,_⟩;.grind
 .refine⟨some (aq g 0),cap,rfl,.inr ⟨g,a,rfl,e,λk d t u hu=>?_⟩⟩;have i:=h.cells (g:=g) rfl (k*5+t) _ (rZ b k d t u hu);have j:((aq g 0):Addr).add (k*5+t)=(aq g (k*5+t)):=by unfold Addr.add;split<;>simp_all
  grind
def tQ(kd a0 a1 a2 a3 a4 a5 a6 a7 a9 b0 b1 up:Int)(tx:BY)(kv:Fd)(w:Int)(W:AT)(ht:aY W)(hs:tx.size<=100000)(hw:0<=w/\w<=100000):
 Calls prog 175 #[eu kd a0 a1 a2 a3 a4 a5 a6 a7 1 a9 b0 b1 tx kv up,Iq w] W λe L=>∃v,e=.returned v/\L.ownsRow W.heap.size 9 1 v (iU tx.data.toList 1 w).length (c_ (iU tx.data.toList 1 w))/\Below W.heap.size W L:=by
 obtain⟨i0,hi,zA,zB,zC⟩:=info_parts wU;obtain⟨S,hS⟩:=af W.heap.size;obtain⟨d,h⟩:=af (((W.alloc (.cells #[Iq kd,Iq a0,Iq a1,Iq a2,Iq a3,Iq a4,Iq a5,Iq a6,Iq a7,Iq 1,Iq a9,Iq b0,Iq b1,.string tx,kv,Iq up] 140)).alloc (.cells #[Iq w] 3)).alloc (.cells #[.slice none 0 0] 171));have q:Hid (Below W.heap.size W d):=by rw[<-h];exact((((Gr.refl W).alloc _).alloc _).alloc _).below
 have x:d.heap[S]?=some (.cells #[Iq kd,Iq a0,Iq a1,Iq a2,Iq a3,Iq a4,Iq a5,Iq a6,Iq a7,Iq 1,Iq a9,Iq b0,Iq b1,.string tx,kv,Iq up] 140 (0,0)):=by rw[<-h,<-hS,bG _ _ _ (by rw[ai,ai];omega),bG _ _ _ (by simp_all)];exact heap_alloc_new _ _
 have R:Boxed d (S+1) 3 (Iq w):=by rw[<-h,<-hS,<-World.size_alloc];exact(Boxed.new _ 3 (Iq w)).alloc _
 have y:Boxed d (S+1+1) 171 (.slice none 0 0):=by rw[<-h,<-hS,<-World.size_alloc,<-World.size_alloc];exact Boxed.new _ _ _
 have n9:d.cell? (aq S 9)=some (Iq 1):=by rw[Lib.cell_of_heap x];rfl
 have zE:d.cell? (aq S 13)=some (.string tx):=by rw[Lib.cell_of_heap x];rfl
 have w0:=R.cell;have LN:Hid (Calls prog 238 #[.string tx,Iq w] d λe L=>∃v,e=.returned v/\Hid (L.ownsRow d.heap.size 341 5 v (bJ (ba (az tx.data.toList)) w).length (fW (bJ (ba (az tx.data.toList)) w)))/\Below d.heap.size d L):=Eh tx w d (ht.below q) dg dg dg;have ze:(bJ (ba (az tx.data.toList)) w).length<=1000000:=by
  have h1:(bJ (ba (az tx.data.toList)) w).length<=(ba (az tx.data.toList)).length+1:=by
   unfold bJ;split;.simp
   .grind[fe]
  have h2:=ci (az tx.data.toList);have h3:=bC tx.data.toList;have h4:tx.data.toList.length=tx.size:=by rw[eK];rfl
  omega
 have I:Hid (iU tx.data.toList 1 w=(bJ (ba (az tx.data.toList)) w).map (·.T)):=if_pos rfl;rw[I.out,qE];obtain⟨m,Y⟩:=af (bJ (ba (az tx.data.toList)) w);rw[Y]at LN ze|-;obtain⟨n,hn⟩:=af m.length;have HN:=qH hn;have zm:=qH y;have G:=qH<|y.lt;rw[hS];have HB3':Hid (Below S W d):=by rw[<-hS];exact q
 clear Y ht x R y I q;unfold eu;go_enter func175,ntmps175;go_wp2_with fail;clear h hS;refine LN.mono ?_;rintro e w2 ⟨v,rfl,HL,b2⟩;obtain⟨p,cp,rfl,X⟩:=Pk HL.out;have zr:=qH X;have zj:=qH<|HB3'.trans (b2.mono (by have:=G.out;omega));have zn:Hid (Boxed w2 (S+1+1) 171 (.slice none 0 0)):=(b2.block _ G).trans zm;clear LN HL X b2 n9 zE w0;rw[hn]at ze|-;go_wp2;go_loopw[17] (λiv wr=>∃k:Nat,k<=n/\iv=Iq k/\Hid (Below S W wr)/\Hid (Si w2 wr)/\∃B,Hid (Boxed wr (S+1+1) 171 B)/\Hid (wr.ownsRow S 9 1 B k (c_ ((m.map (·.T)).take k)))) (λiv _=>n-(intOf iv).toNat);.exact⟨0,LT,rfl,zj,λ_ _ _ e=>e,_,zn,gw _ _ _ _⟩
 obtain⟨k,hk,rfl,HB,HK,B,HX,HR⟩:=hrel;by_cases zy:k<n
 .have Z:(k:Int)<(n:Int):=dg;obtain⟨g,zw,rfl,hg,hc⟩:=zr.resolve_left dg;have zx:k<m.length:=by have:=HN.out;omega
  have D:Hid (c_ ((m.map (·.T)).take (k+1))=c_ ((m.map (·.T)).take k)++[.string ⟨m[k].T.toArray⟩]):=qH<|by rw[gx rn,nJ,List.getElem_map]
  have r:=qH<|λt u hu=>(aQ (a:=(aq g (k*5+t))) ((HK g zw _ hg).trans hg.symm)).trans (hc k zx t u hu);obtain⟨⟨T,V,F,N,E⟩,hx⟩:=af m[k];rw[hx]at r D;have c0:wr.cell? (aq g (k*5))=some (.string ⟨T.toArray⟩):=r 0 _ rfl;have c1:wr.cell? (aq g (k*5+1))=some (Iq V):=r 1 _ rfl;have c2:wr.cell? (aq g (k*5+2))=some (Iq F):=r 2 _ rfl;have c3:wr.cell? (aq g (k*5+3))=some (Iq N):=r 3 _ rfl;have c4:wr.cell? (aq g (k*5+4))=some (Iq E):=r 4 _ rfl;obtain⟨C,i⟩:=af (wr.alloc (.cells #[.string ⟨T.toArray⟩,Iq V,Iq F,Iq N,Iq E] 341));have l:Boxed C (S+1+1) 171 B:=by rw[<-i];exact HX.alloc _
  have zh:C.ownsRow S 9 1 B k (c_ ((m.map (·.T)).take k)):=by rw[<-i];exact qG HR _
  have Q:Below S W C:=by rw[<-i];exact HB.alloc (by have:=HX.lt;omega) _
  have U:Si w2 C:=by rw[<-i];exact λj c O e=>(bG _ _ _ (aj.1 (HK j c O e)).1).trans (HK j c O e)
  have l0:C.cell? (aq wr.heap.size 0)=some (.string ⟨T.toArray⟩):=by rw[<-i,Lib.cell_of_heap (heap_alloc_new _ _)];rfl
  have x5:=l.cell;have zD:S<=C.heap.size:=by have:=l.lt;omega
  have J:=qH l;have s:=qH zh;have zk:=qH Q;have zo:=qH U;clear hx r hc hg HK HB HR HX l zh Q U;go_wp2_with(at_builtin;refine wpList_append_own _ rfl _ _ 171 rfl S 9 i0 (.string ⟨#[]⟩) 1 16 underlying171 hi zA zB zC rfl (by decide) _ _ _ rfl (qG s _) _ 1 1 [.string ⟨T.toArray⟩] rfl rfl ?c1 ?c2 ?c3 ?c4 ?c5 ?_);(try case c1=>exact jR _ _ _);(try case c2=>first|exact rfl|(intro u hu;simp at hu;subst hu;rfl));case c3=>unfold maxLen;omega
  case c4=>omega
  case c5=>omega
  intro v' w6 b z _;obtain⟨g',o,rfl⟩:=ownsRow_succ b;obtain⟨A,zi,zg,_,P⟩:=J.appended (by decide) s zD dg b z;have zq:Hid (Si w2 (w6.setCell (aq (S+1+1) 0) (Sq g' (k+1) o))):=λj c O e=>LV J s z j c O (zo j c O e);have zv:=qH zi;have zt:=qH zg;have zl:Hid (Below S W (w6.setCell (aq (S+1+1) 0) (Sq g' (k+1) o))):=zk.trans P;have zF:=A.cell;have zG:=A.frozen;clear z b A zi zg P;go_wp2;go_roundw;.exact⟨k+1,zy,by go_num,zl,zq,_,zv,by rw[D.out];exact zt⟩
  grind[intOf]
 .have Z:¬(k:Int)<(n:Int):=dg;obtain rfl:k=n:=dg;have x0:=HX.cell;have zu:Hid (wr.ownsRow S 9 1 B k (c_ (m.map (·.T)))):=by have:=HR.out;rw[im rn]at this;exact this
  go_wp2;go_ret;exact⟨_,rfl,zu,HB⟩
def p_{W:AT}{B b}{e}{size}{v}{n}{d}(h:W.ownsRow B e size v n d)(l:b<=B):W.ownsRow b e size v n d:=by
 refine⟨h.1,?_⟩;rcases h.2 with h|⟨g,cap,a,i,j,k⟩;.grind
 .exact .inr ⟨g,cap,a,i,aA l j,k⟩
def BR{W u}{B}{e}{size}{v}{n}{d}(h:W.ownsRow B e size v n d)(l:Bq W u):u.ownsRow B e size v n d:=by
 refine⟨h.1,?_⟩;rcases h.2 with h|⟨g,cap,a,i,j,b,k⟩;.grind
 .exact .inr ⟨g,cap,a,i,j,(l.block g (aj.1 b).1).trans b,k⟩
def uS(w:Int)(p:zzf):List UInt8:=qT (one (ba (az p))) w
def vT(kd a0 a1 a2 a3 a4 a5 a6 a7 G a9 b0 b1 up:Int)(tx:BY)(kv:Fd)(w:Int)(W:AT)(ht:aY W)(hs:tx.size<=100000)(hw:0<=w/\w<=100000)(h8:G≠1):
 Calls prog 175 #[eu kd a0 a1 a2 a3 a4 a5 a6 a7 G a9 b0 b1 tx kv up,Iq w] W λe j=>∃v,e=.returned v/\j.ownsRow W.heap.size 9 1 v (iU tx.data.toList G w).length (c_ (iU tx.data.toList G w))/\Below W.heap.size W j:=by
 have zh:Hid (iU tx.data.toList G w=(cZ tx.data.toList).map (uS w)):=if_neg h8;rw[zh.out];obtain⟨t,N⟩:=af tx.data.toList;have zu:tx=⟨t.toArray⟩:=by rw[<-N]
 have zK:t.length<=100000:=by rw[<-N,eK];exact hs
 rw[N];subst zu;clear N hs zh;have zi:prog.follows .mixedOrders=true:=pt;have e8:(G==1)=false:=by simpa using h8
 obtain⟨i0,hi,zx,zy,zA⟩:=info_parts wU;unfold eu;refine(callsIn_wide (n:=6)).1 ?_;refine callsIn_of_wp_marks func175 rfl trivial ?_ rfl;simp only[ntmps175,iS,cV,eI,Nat.reduceAdd,Nat.reduceSub,nX,nY,nZ,n_,od,kM];gi_wp2_with fail;obtain⟨S,hS⟩:=af W.heap.size;obtain⟨X1,h1⟩:=af (W.alloc (.cells #[Iq kd,Iq a0,Iq a1,Iq a2,Iq a3,Iq a4,Iq a5,Iq a6,Iq a7,Iq G,Iq a9,Iq b0,Iq b1,.string ⟨t.toArray⟩,kv,Iq up] 140));have s1:X1.heap.size=S+1:=by rw[<-h1,ai,hS]
 obtain⟨X2,R⟩:=af (X1.alloc (.cells #[Iq w] 3));have s2:X2.heap.size=S+1+1:=by rw[<-R,ai,s1]
 obtain⟨X3,h3⟩:=af (X2.alloc (.cells #[.slice none 0 0] 171));have s3:X3.heap.size=S+1+1+1:=by rw[<-h3,ai,s2]
 rw[h1,R,h3];refine⟨trivial,(callsIn_wide.2 (mf ⟨t.toArray⟩ _)).mono ?_⟩;rintro e w' ⟨rfl,rfl⟩;obtain⟨X4,T⟩:=af (X3.alloc (.cells #[.string ⟨t.toArray⟩] 9));have s4:X4.heap.size=S+1+1+1+1:=by rw[<-T,ai,s3]
 obtain⟨X5,Q⟩:=af (X4.alloc (.cells #[.string ⟨#[10]⟩] 9));have s5:X5.heap.size=S+1+1+1+1+1:=by rw[<-Q,ai,s4]
 obtain⟨r,J⟩:=af (X5.alloc (.cells #[Iq 0] 3));have s6:r.heap.size=S+1+1+1+1+1+1:=by rw[<-J,ai,s5]
 have bW:Boxed r (S+1) 3 (Iq w):=by
  have q:Boxed X2 (S+1) 3 (Iq w):=by rw[<-R,<-s1];exact Boxed.new _ _ _
  rw[<-J,<-Q,<-T,<-h3];exact(((q.alloc _).alloc _).alloc _).alloc _
 have bL:Boxed r (S+1+1) 171 (.slice none 0 0):=by
  have q:Boxed X3 (S+1+1) 171 (.slice none 0 0):=by rw[<-h3,<-s2];exact Boxed.new _ _ _
  rw[<-J,<-Q,<-T];exact((q.alloc _).alloc _).alloc _
 have bT:Boxed r (S+1+1+1) 9 (.string ⟨t.toArray⟩):=by
  have q:Boxed X4 (S+1+1+1) 9 (.string ⟨t.toArray⟩):=by rw[<-T,<-s3];exact Boxed.new _ _ _
  rw[<-J,<-Q];exact(q.alloc _).alloc _
 have bP:Boxed r (S+1+1+1+1) 9 (.string ⟨#[10]⟩):=by
  have q:Boxed X5 (S+1+1+1+1) 9 (.string ⟨#[10]⟩):=by rw[<-Q,<-s4];exact Boxed.new _ _ _
  rw[<-J];exact q.alloc _
 have bV:Boxed r (S+1+1+1+1+1) 3 (Iq 0):=by rw[<-J,<-s5];exact Boxed.new _ _ _
 have zo:Below S W r:=by rw[<-J,<-Q,<-T,<-h3,<-R,<-h1,<-hS];exact((((((Gr.refl W).alloc _).alloc _).alloc _).alloc _).alloc _).alloc _|>.below
 rw[T,Q,J,s3,hS];have zJ:aY r:=ht.below rn;clear h1 R h3 T Q J s1 s2 s3 s4 s5;gi_wp2;refine kB rfl dg (gf:=325) (lb:=#[Pq (S+1+1+1+1),Pq (S+1+1+1),Pq (S+1+1+1+1+1)]) rfl trivial (enters_of func325 pt rfl)
  (me 5 dg (S+1+1+1+1) (S+1+1+1) (S+1+1+1+1+1) t dg r dg dg bP bT bV) dg iV.trans (rW dg dg dg) Ok (λ_=>rfl)
  (λa j=>((∃v,Boxed j (S+1+1) 171 v/\j.ownsRow r.heap.size 9 1 v a.length (c_ (a.map (uS w)))/\True)/\Boxed j (S+1) 3 (Iq w))/\Below S W j/\r.heap.size<=j.heap.size)
  (OwnFrom.and (OwnFrom.and (Own.from (holdsRow_own r.heap.size (S+1+1) 171 9 1 (λa:List (List UInt8)=>a.length) (λa=>c_ (a.map (uS w))) (λ_ _=>True)) _) (Own.from (boxed_own _ _ _) _)) (OwnFrom.and (ownFrom_below dg dg) (λ_ _ _ _ h X _=>aA h X.size)))
  (λa A B row ⟨⟨⟨v,q1,q2,_⟩,q3⟩,q4,q5⟩ X hr=>by
   have Y:∀b,b≠S+1+1+1->some b≠row:=λb hb e=>rn;refine⟨⟨⟨v,q1.kept X (Y _ dg),q2.kept X ?_,trivial⟩,q3.kept X (Y _ dg)⟩,q4.grown X dg (λq hq=>rn),aA q5 X.size⟩;rcases q2.2 with⟨rfl,_⟩|⟨g,cap,zC,rfl,zF,_⟩;.exact .inl rfl
   .exact .inr (λe=>Y g dg e))
  ⟨⟨⟨_,bL,gw _ _ _ _,trivial⟩,bW⟩,zo,LE⟩
  (λx a' j=>a'={tmps:=#[.agg #[Iq kd,Iq a0,Iq a1,Iq a2,Iq a3,Iq a4,Iq a5,Iq a6,Iq a7,Iq G,Iq a9,Iq b0,Iq b1,.string ⟨t.toArray⟩,kv,Iq up],Iq w,Pq S,Pq (S+1),.slice none 0 0,Pq (S+1+1),undef,undef,.string ⟨x.toArray⟩,.pointer (some (aq S 9)),Iq G,.bool false,undef,undef,undef,undef,undef,undef,undef,undef,undef,undef,undef,undef,undef,undef,undef,undef,.pointer (some (aq S 13)),.string ⟨t.toArray⟩,.func (.func 325) #[] #[Pq (S+1+1+1+1),Pq (S+1+1+1),Pq (S+1+1+1+1+1)],.string ⟨x.toArray⟩,undef,undef,undef,undef,undef,undef,undef],defers:=[]})
  (λ_ _ _ _ _ _ hs _ _=>hs)
  ?assign ?body ?done;case assign=>rintro k0 a x j K hI d;dsimp only[EM]at d|-;gi_wp2;exact d _ _ (KeepsFrom.refl _ _) ⟨rfl,rfl,rfl⟩ hI rfl
 case body=>
  rintro k0 a x a' j ⟨⟨⟨v,hv,s,_⟩,L⟩,hB,zE⟩ rfl zG zL;have hc:=hv.cell;have wc:=L.cell;have zw:(⟨x.toArray⟩:BY).size=x.length:=by simp[ByteArray.size]
  obtain⟨y,hy⟩:=af (uS w x);have HV:=qH hv;have zg:=qH s;have C:=qH L;have zn:=qH hB;have CU:Hid (∀u,(u=j\/u=j.drew)->Calls prog 240 #[.string ⟨x.toArray⟩,Iq w] u λe u'=>e=.returned (.string ⟨y.toArray⟩)/\Hid (Below j.heap.size j u')):=λu hu=>by
   have V:Below j.heap.size j u:=by
    rcases hu with rfl|rfl;.exact Ok
    .exact Ok.drew
   refine Ut (K_ ⟨x.toArray⟩ w u ((ht.below (w':=j) rn).below V) (by rw[zw];omega) dg dg) ?_;rintro u' q;exact⟨by rw[<-hy];rfl,V.trans (q.mono V.size)⟩
  have ze:Hid (∀u F z,Below j.heap.size j u->z.ownsRow r.heap.size 9 1 F (a.length+1) (c_ (a.map (uS w))++[.string ⟨y.toArray⟩])->(u.alloc (.cells #[.string ⟨y.toArray⟩] 9)).grownBy z v.ownBlock->(z.cell? (aq (S+1+1) 0)=some v/\z.frozen? (aq (S+1+1) 0)=false/\z.cell? (aq (S+1) 0)=some (Iq w))/\tk r.heap.size (iV (S+1+1+1+1) (S+1+1+1) (S+1+1+1+1+1)) (λa j=>((∃v,Boxed j (S+1+1) 171 v/\j.ownsRow r.heap.size 9 1 v a.length (c_ (a.map (uS w)))/\True)/\Boxed j (S+1) 3 (Iq w))/\Below S W j/\r.heap.size<=j.heap.size) (a++[x]) j .normal {tmps:=#[],defers:=[]} (z.setCell (aq (S+1+1) 0) F)):=λu F z hu l E=>by
   have zk:Boxed u (S+1+1) 171 v:=(hu.block _ HV.lt).trans HV;have zj:u.ownsRow r.heap.size 9 1 v a.length (c_ (a.map (uS w))):=BR zg hu;obtain⟨Z,zv,zH,zr,zq⟩:=zk.appended (by decide) (p_ zj (by omega:S<=_)) (by have:=zk.lt;omega) dg (p_ l (by omega:S<=_)) E;have zI:=l.kept (grownBy_setCell' z _ F) (.inr (Z.not_row (by decide) l).symm);have zt:=λq hq=>(zj.lt q hq).1;have O:∀b,b≠S+1+1->b<r.heap.size->(z.setCell (aq (S+1+1) 0) F).heap[b]?=j.heap[b]?:=λb hb hl=>by rw[aM z (aq (S+1+1) 0) F b hb,E.block b (by rw[ai];have:=hu.size;omega) (λe=>rn),bG _ _ _ (by have:=hu.size;omega)];exact hu.block b dg
   have zl:Boxed (z.setCell (aq (S+1+1) 0) F) (S+1) 3 (Iq w):=(O (S+1) dg dg).trans C;refine⟨⟨Z.cell,Z.frozen,?_⟩,?_,⟨O _ dg dg,O _ dg dg,O _ dg dg⟩,⟨⟨F,zv,?_,trivial⟩,zl⟩,zn.trans ((hu.mono dg).trans zq),?_⟩;.have:=(aM z (aq (S+1+1) 0) F (S+1) rn).symm.trans zl;exact Boxed.cell this
   .exact(KeepsOthers.trans ⟨hu.size,λk o ho _=>(hu.block k (aj.1 ho).1).trans ho⟩ zr).from _
   .grind[nJ]
   .have h1:=hu.size;have R:=E.size;rw[ai]at R;simp[World.setCell];omega
  clear hv s L hB;gi_wp2_with fail;refine tW (S:=λu=>u.cell? (aq (S+1) 0)=some (Iq w)) pt (by rintro⟨_,_,q⟩;exact q) zi wc (λzD=>?_);refine wpAnyH_take (i:=1) (v:=?v1) rfl pt pt pt (λ_ _ _ h=>h) (Or.inl ⟨by rfl,?hy⟩) dg ?_;case hy=>intro w U;(try dsimp only at U);go_simp<;>with_reducible rfl
  try simp only[Act.put]
  refine wpAnyH_take (i:=2) (v:=?v2) rfl pt pt pt (λ_ _ _ h=>h) (Or.inl ⟨by rfl,?hy⟩) dg ?_;case hy=>intro w U;(try dsimp only at U);go_simp<;>with_reducible rfl
  try simp only[Act.put]
  refine wpAnyH_ready (rs:=[0,3]) pt At ?_;refine AllReadyH.cons rfl (λm d=>?_) (AllReadyH.cons rfl (λm d=>?_) AllReadyH.nil);focus go_simp;refine d.out _ _ wc (λ_=>?_);clear d m;refine wpAnyH_ready (rs:=[3]) pt At ?_;refine AllReadyH.cons rfl (λm d=>?_) AllReadyH.nil;go_simp;go_wp2_with(go_at_call 240;refine ag (CU _ rn) ?_;rintro e u ⟨rfl,P⟩);have wu:=(P.cell (p:=(aq (S+1) 0)) C.lt).trans C.cell;have lu:=(P.cell (p:=(aq (S+1+1) 0)) HV.lt).trans HV.cell;refine d.out _ _ wu (λ_=>?_);clear d m;refine wpAnyH_ready (rs:=[4]) pt At ?_;refine AllReadyH.cons rfl (λm d=>?_) AllReadyH.nil;go_simp;have wb:(u.alloc (.cells #[.string ⟨y.toArray⟩] 9)).cell? (aq (S+1) 0)=some (Iq w):=(World.cell?_alloc_some u _ _ rn).trans wu;have lb:(u.alloc (.cells #[.string ⟨y.toArray⟩] 9)).cell? (aq (S+1+1) 0)=some v:=(World.cell?_alloc_some u _ _ rn).trans lu;refine d.out _ _ wb (λ_=>?_);clear d m
  rotate_left;focus
   go_simp;go_wp2_with(go_at_call 240;refine ag (CU _ rn) ?_;rintro e u ⟨rfl,P⟩);have wu:=(P.cell (p:=(aq (S+1) 0)) C.lt).trans C.cell;have lu:=(P.cell (p:=(aq (S+1+1) 0)) HV.lt).trans HV.cell;refine d.out _ _ wu (λ_=>?_);clear d m;refine wpAnyH_ready (rs:=[0,4]) pt At ?_;refine AllReadyH.cons rfl (λm d=>?_) (AllReadyH.cons rfl (λm d=>?_) AllReadyH.nil);focus go_simp;refine d.out _ _ wu (λ_=>?_);clear d m;refine wpAnyH_ready (rs:=[4]) pt At ?_;refine AllReadyH.cons rfl (λm d=>?_) AllReadyH.nil;go_simp;have wb:(u.alloc (.cells #[.string ⟨y.toArray⟩] 9)).cell? (aq (S+1) 0)=some (Iq w):=(World.cell?_alloc_some u _ _ rn).trans wu;have lb:(u.alloc (.cells #[.string ⟨y.toArray⟩] 9)).cell? (aq (S+1+1) 0)=some v:=(World.cell?_alloc_some u _ _ rn).trans lu;refine d.out _ _ wb (λ_=>?_);clear d m
   rotate_left;focus go_simp;have wb:(u.alloc (.cells #[.string ⟨y.toArray⟩] 9)).cell? (aq (S+1) 0)=some (Iq w):=(World.cell?_alloc_some u _ _ rn).trans wu;have lb:(u.alloc (.cells #[.string ⟨y.toArray⟩] 9)).cell? (aq (S+1+1) 0)=some v:=(World.cell?_alloc_some u _ _ rn).trans lu;refine d.out _ _ wb (λ_=>?_);clear d m;refine wpAnyH_ready (rs:=[0]) pt At ?_;refine AllReadyH.cons rfl (λm d=>?_) AllReadyH.nil;go_simp;refine d.out _ _ wb (λ_=>?_);clear d m
  all_goals refine wpAnyH_ready (rs:=[5]) pt At ?_;refine AllReadyH.cons rfl (λm d=>?_) AllReadyH.nil;refine ox rfl (.tmp 32) (.tmp 36) 171 rfl r.heap.size 9 i0 (.string ⟨#[]⟩) 1 16 underlying171 hi zx zy zA rfl (by decide) v a.length (c_ (a.map (uS w))) (by simp[Act.eval]) (qG (BR zg P) _) _ 1 1 [.string ⟨y.toArray⟩] (by simp[Act.eval]) rfl (jR _ _ _) (by intro u hu;simp at hu;subst hu;rfl) (by unfold maxLen;omega) dg (by rw[ai];have:=P.size;omega) ?_;intro F z l E;obtain⟨g',zB,rfl⟩:=ownsRow_succ l;obtain⟨⟨f1,f2,f3⟩,f4⟩:=ze u _ z P l E;refine d.out _ _ f3 (λ_=>?_);clear d m;refine wpAnyH_ready (rs:=[6]) pt At ?_;refine AllReadyH.cons rfl (λm d=>?_) AllReadyH.nil;go_simp;refine d.out _ _ ((World.cell?_setCell_far _ _ _ _ rn).trans f3) (λ_=>?_);clear d m;refine wpAnyH_done pt ?_ _;exact f4
 case done=>rintro D ys j hD rfl ⟨⟨⟨v,hv,s,_⟩,L⟩,hB,_⟩ d;have hc:=hv.cell;gi_wp2;refine⟨At,.inl ⟨_,_,rfl,run_takeDeferred d,?_⟩⟩;refine⟨_,results_tmp rfl _ _ _,v,rfl,?_,by rw[hS];exact hB.trans (belowK_b (w:=W) dg j D _ _ dg d rfl rfl)⟩;rw[hS,qE];exact ownsRow_putObj (p_ s dg) _ d rfl
end
def yH l a n:(aI ((l.drop a).take n)).length<=(aI l).length:=by
 have b:aI l=aI (l.take a)++aI (l.drop a):=by rw[<-pI,eT]
 have d:aI (l.drop a)=aI ((l.drop a).take n)++aI ((l.drop a).drop n):=by rw[<-pI,eT]
 rw[b,d,aN,aN];omega
def yP l w B(i:(aI l).length<=B)(e:w.toNat<=B):∀  f a,∀x∈iA f l w a,x.T.length<=B:=by
 have d:∀a,(eq l w a).T.length<=B:=λa=>by
  have:=yH l a (aR (l.drop a) w).n;unfold eq;dsimp only;split;.simpa using e
  .dsimp only;omega
 intro f;induction f with
 |zero=>intro a x b;cases b
 |succ f h=>
  intro a x b;simp only[iA]at b;split at b;.rw[CF.1 b];exact d a
  .rcases kD.1 b with rfl|b;.exact d a
   .exact h _ x b
theorem yV l:(aI (one l)).length=(aI l).length:=by
 induction l with
 |nil=>rfl
 |cons c l a=>grind[aI,one,np]
def wN:∀  t,∀p∈cZ t,p.length<=t.length
 |[],p,a=>by grind[cZ]
 |b::t,p,a=>by have d:=wN t;grind[cZ]
def Jp t a w(j:t.length<=100000)(k:w<=100000):∀s∈iU t a w,s.length<=3000000:=by
 intro s b;unfold iU at b;split at b
 .obtain⟨x,d,rfl⟩:=kJ.1 b;have h:=kt t;unfold bJ at d;split at d;.cases d
  .exact yP _ w 3000000 dg dg _ _ x d
 .obtain⟨p,e,rfl⟩:=kJ.1 b;have i:=wN t p e;grind[kt,yV,ba,az,qT,fU,one,dk]
def Fx T c W how:(qO T c W how).length<=T.length+100000+c.natAbs:=by grind[qO,Fw]
section
variable(W H:Nat) (f g bd cx cy ca cb:Int)
def AE(x w al:Int):List (List UInt8)->Int->(Nat->Nat->Ce)->Nat->Nat->Ce
 |[],_,c=>c
 |s::r,y,c=>AE x w al r (y+1) (wrL W H f g bd cx cy ca cb x y (qO s (ak (ba (az s))) w al) c)
def xu x w a:∀  l   s   y   c,AE W H f g bd cx cy ca cb x w a (l++[s]) y c=wrL W H f g bd cx cy ca cb x (y+l.length) (qO s (ak (ba (az s))) w a) (AE W H f g bd cx cy ca cb x w a l y c)
 |[],s,y,c=>by show wrL W H f g bd cx cy ca cb x y _ _=wrL W H f g bd cx cy ca cb x (y+0) _ _;rw[Int.add_zero];rfl
 |p::l,s,y,c=>by show AE W H f g bd cx cy ca cb x w a (l++[s]) (y+1) _=_;rw[xu x w a l s,show(y+((p::l).length:Int))=y+1+l.length by simp;omega];rfl
theorem qt{P:(Nat->Nat->Ce)->Prop}x w a:∀  l   y   c,(∀y s c,P c->P (wrL W H f g bd cx cy ca cb x y s c))->P c->P (AE W H f g bd cx cy ca cb x w a l y c)
 |[],_,_,_,h=>h
 |s::r,y,c,b,h=>qt x w a r _ _ b (b _ _ _ h)
end
def vS q b d h i j k l m a n o p up tx r w W(x:aY W)(u:tx.size<=100000)(y:0<=w/\w<=100000):
 Cw 175 #[eu q b d h i j k l m a n o p tx r up,Iq w] W λe s=>∃v,e=Rw v/\s.ownsRow W.heap.size 9 1 v (iU tx.data.toList a w).length (c_ (iU tx.data.toList a w))/\Bq W s:=by
 by_cases t:a=1;.subst t;exact tQ q b d h i j k l m n o p up tx r w W x u y
 .exact vT q b d h i j k l m a n o p up tx r w W x u y t
def M8{W:AT}{B}{v}{a}(h:W.ownsRow B 9 1 v a.length (c_ a)):∃p c,v=.slice p a.length c/\a.length<=c/\(a.length=0\/∃g,p=some (aq g 0)/\B<=g/\g<W.heap.size/\∀k (l:k<a.length),W.cell? (aq g k)=some (.string ⟨a[k].toArray⟩)):=by
 rcases h.2 with⟨rfl,b⟩|⟨g,cap,d,rfl,e,j,i,_⟩;.exact⟨none,0,by rw[b],dg,.inl b⟩
 .refine⟨some (aq g 0),cap,rfl,i,.inr ⟨g,rfl,e,(aj.1 j).1,λk l=>?_⟩⟩;have m:=h.cells (g:=g) rfl k (.string ⟨a[k].toArray⟩) (by grind[c_]);have n:((aq g 0):Addr).add k=(aq g k):=by unfold Addr.add;split<;>simp_all
  grind
section
variable{K M cap W H:Nat} {c:zzd}
def rj(U0 E:AT)(h:CS 196 46 E K M cap W H c)(hW:1<=W/\W<=400)(hH:1<=H/\H<=400)(hp:PAll W H c)(ht:aY U0)(hU:Bq U0 E)(hM:U0.heap.size<=M)(f g bd cx cy ca cb:Int)(R T U V X Y Z a6 b t a9 b0 b1 up:Int)(tx:BY)(kv:Fd)(x y w hh:Int)(hs:tx.size<=100000)(hx:-100000000000<=x/\x<=100000000000)(hy:-100000000000<=y/\y<=100000000000)(hw:0<=w/\w<=100000)(zR:0<=hh/\hh<=100000)(zA:-1000000000000<=cy/\cy<=1000000000000)(zx:-1000000000000<=cb/\cb<=1000000000000):
 Cw 100 #[E0 K f g bd cx cy ca cb,eu R T U V X Y Z a6 b t a9 b0 b1 tx kv up,rv x y w hh] E λe w'=>e=Rw (.tuple #[])/\Cv 46 w' M W H (AE W H f g bd cx cy ca cb x w b ((iU tx.data.toList t w).take hh.toNat) y c)/\bM M E w':=by
 have zN:prog.follows .mixedOrders=true:=pt;have zm:=h.cv.lt;obtain⟨A,hA⟩:=af E.heap.size;obtain⟨l,z⟩:=af (((E.alloc (.cells #[Pq K,Iq f,Iq g,Iq bd,Iq cx,Iq cy,Iq ca,Iq cb] 148)).alloc (.cells #[Iq R,Iq T,Iq U,Iq V,Iq X,Iq Y,Iq Z,Iq a6,Iq b,Iq t,Iq a9,Iq b0,Iq b1,.string tx,kv,Iq up] 140)).alloc (.cells #[Iq x,Iq y,Iq w,Iq hh] 93));have r:Hid (Bq E l):=by rw[<-z];exact((((Gr.refl E).alloc _).alloc _).alloc _).below
 have zn:l.heap[A]?=some (.cells #[Pq K,Iq f,Iq g,Iq bd,Iq cx,Iq cy,Iq ca,Iq cb] 148 (0,0)):=by rw[<-z,<-hA,bG _ _ _ (by rw[ai,ai];omega),bG _ _ _ (by simp_all)];exact heap_alloc_new _ _
 have N:l.heap[A+1]?=some (.cells #[Iq R,Iq T,Iq U,Iq V,Iq X,Iq Y,Iq Z,Iq a6,Iq b,Iq t,Iq a9,Iq b0,Iq b1,.string tx,kv,Iq up] 140 (0,0)):=by rw[<-z,<-hA,bG _ _ _ (by simp_all),<-World.size_alloc];exact heap_alloc_new _ _
 have O:l.heap[A+1+1]?=some (.cells #[Iq x,Iq y,Iq w,Iq hh] 93 (0,0)):=by rw[<-z,<-hA,<-World.size_alloc,<-World.size_alloc];exact heap_alloc_new _ _
 have G:=qH<|(aj.1 O).1;have zg:Hid (M<A):=by rw[<-hA];exact zm
 have HS:Hid (∀u,bM M l u->u.cell? (aq A 0)=some (Pq K)/\u.cell? (aq A 1)=some (Iq f)/\u.cell? (aq A 2)=some (Iq g)/\u.cell? (aq A 3)=some (Iq bd)/\u.cell? (aq A 4)=some (Iq cx)/\u.cell? (aq A 5)=some (Iq cy)/\u.cell? (aq A 6)=some (Iq ca)/\u.cell? (aq A 7)=some (Iq cb)/\u.cell? (aq (A+1+1) 0)=some (Iq x)/\u.cell? (aq (A+1+1) 1)=some (Iq y)/\u.cell? (aq (A+1+1) 2)=some (Iq w)/\u.cell? (aq (A+1+1) 3)=some (Iq hh)/\u.cell? (aq (A+1) 8)=some (Iq b)):=λu hu=>by
  have e1:=(hu.block A rn dg).trans zn;have e2:=(hu.block (A+1) rn dg).trans N;have e3:=(hu.block (A+1+1) G dg).trans O;refine⟨?_,?_,?_,?_,?_,?_,?_,?_,?_,?_,?_,?_,?_⟩;all_goals first
   |(rw[Lib.cell_of_heap e1];rfl)
   |(rw[Lib.cell_of_heap e2];rfl)
   |(rw[Lib.cell_of_heap e3];rfl)
 have i:Hid (∀(k:Nat) v,(#[Iq R,Iq T,Iq U,Iq V,Iq X,Iq Y,Iq Z,Iq a6,Iq b,Iq t,Iq a9,Iq b0,Iq b1,.string tx,kv,Iq up]:Array Fd)[k]?=some v->l.cell? (aq (A+1) k)=some v):=λk v hv=>by rw[Lib.cell_of_heap N];exact hv
 obtain⟨z0,z1,z2,z3,z4,z5,z6,z7,r0,r1,r2,r3,_⟩:=HS l (bM.refl _ _);have n0:l.cell? (aq (A+1) 0)=some (Iq R):=i 0 _ rfl;have n1:=i 1 _ rfl;have n2:=i 2 _ rfl;have n3:=i 3 _ rfl;have n4:=i 4 _ rfl;have n5:=i 5 _ rfl;have n6:=i 6 _ rfl;have n7:=i 7 _ rfl;have n8:=i 8 _ rfl;have n9:=i 9 _ rfl;have zG:=i 10 _ rfl;have zH:=i 11 _ rfl;have zI:=i 12 _ rfl;have zJ:=i 13 _ rfl;have zK:=i 14 _ rfl;have zL:=i 15 _ rfl;have I:=hU.trans (r.mono hU.size);have zl:=qH I;have HT:=qH ht;have j:=qH h;have HP:=qH hp;have LO:Hid (Cw 175 #[eu R T U V X Y Z a6 b t a9 b0 b1 tx kv up,Iq w] l λe W'=>∃v,e=Rw v/\Hid (W'.ownsRow l.heap.size 9 1 v (iU tx.data.toList t w).length (c_ (iU tx.data.toList t w)))/\Bq l W'):=vS R T U V X Y Z a6 b t a9 b0 b1 up tx kv w l (ht.below I) hs hw;have zj:Hid (∀s∈iU tx.data.toList t w,s.length<=3000000):=Jp _ _ _ (by rw[eK];exact hs) hw.2;obtain⟨o,zq⟩:=af (iU tx.data.toList t w);rw[zq]at LO zj|-;obtain⟨m,hm⟩:=af (min o.length hh.toNat);have zU:min (o.length:Int) hh=(m:Int):=dg;have zS:m<=o.length:=dg;have zu:Hid (o.take hh.toNat=o.take m):=qH<|by rw[<-hm,List.take_eq_take_iff];omega
 rw[zu.out];clear zq hm ht hU I h hp zn N O;unfold E0 rv;unfold eu at LO|-;go_enter func100,ntmps100;go_wp2_with fail;clear z hA;refine LO.mono ?_;rintro e w2 ⟨v,rfl,HL,b2⟩;obtain⟨p,cp,rfl,zP,zo⟩:=M8 HL.out;have zt:=qH zo;have d:Hid (bM M l w2):=bM.below b2;obtain⟨y0,y1,y2,y3,y4,y5,y6,y7,q0,q1,q2,q3,q4⟩:=HS w2 d;have zv:=qH<|j.cv.keep ((b2.block M (by have:=zg.out;have:=G.out;omega)).trans (r.block M zm));clear LO HL zo b2 z0 z1 z2 z3 z4 z5 z6 z7 r0 r1 r2 r3 n0 n1 n2 n3 n4 n5 n6 n7 n8 n9 zG zH zI zJ zK zL i;have zT:m<=cp:=dg;go_wp2;go_loopw[21] (λiv wr=>∃k:Nat,k<=m/\iv=Iq k/\Hid (Cv 46 wr M W H (AE W H f g bd cx cy ca cb x w b (o.take k) y c))/\Hid (bM M w2 wr)) (λiv _=>m-(intOf iv).toNat);.exact⟨0,LT,rfl,zv,bM.refl _ _⟩
 obtain⟨k,hk,rfl,HV,S⟩:=hrel;by_cases zD:k<m
 .have zr:(k:Int)<(m:Int):=dg;obtain⟨gb,rfl,zQ,zB,hg⟩:=zt.resolve_left dg;have L:k<o.length:=dg;obtain⟨s,C⟩:=af o[k];have zX:s.length<=3000000:=by rw[<-C];exact zj _ (kK L)
  obtain⟨D,B⟩:=af (qO s (ak (ba (az s))) w b);have zF:=cU _ (eV (az s)) (ba (az s)).length;rw[jB]at zF;have zO:=ci (az s);have zV:=bC s;have zM:D.length<=100000000:=by rw[<-B];have:=Fx s (ak (ba (az s))) w b;omega
  have c0:wr.cell? (aq gb k)=some (.string ⟨s.toArray⟩):=by rw[<-C];exact(aQ (a:=(aq gb k)) (S.block gb zB (by have:=zg.out;have:=G.out;omega))).trans (hg k L)
  have zh:Hid (AE W H f g bd cx cy ca cb x w b (o.take (k+1)) y c=wrL W H f g bd cx cy ca cb x (y+k) D (AE W H f g bd cx cy ca cb x w b (o.take k) y c)):=qH<|by rw[gx L,xu,C,B,cL,JV dg]
  have F:Hid (∀u,bM M l u->aY u):=λu hu=>HT.below (hu.low hM (aA zl.size LE) zl);have zi:Hid (s.toArray.size=s.length/\D.toArray.size=D.length):=⟨At,At⟩;have AL:Hid (∀u,(u=wr\/u=wr.drew)->Cw 176 #[.string ⟨s.toArray⟩,Iq w,Iq b] u λe u'=>e=Rw (.string ⟨D.toArray⟩)/\Hid (Bq wr u')):=λu hu=>by
   have J:Bq wr u:=by
    rcases hu with rfl|rfl;.exact Ok
    .exact Ok.drew
   refine Ut (Di ⟨s.toArray⟩ w b u (F u ((d.trans S).trans (bM.below J))) (by show s.toArray.size<=_;rw[zi.1];omega) dg dg) ?_;rintro u' q;exact⟨by rw[<-B],J.trans (q.mono J.size)⟩
  have WR:Hid (∀u,Bq wr u->Cw 174 #[.agg #[Pq K,Iq f,Iq g,Iq bd,Iq cx,Iq cy,Iq ca,Iq cb],Iq x,Iq (y+k),.string ⟨D.toArray⟩] u λe u'=>e=Rw (.tuple #[])/\Hid (Cv 46 u' M W H (AE W H f g bd cx cy ca cb x w b (o.take (k+1)) y c))/\Hid (bM M w2 u')):=λu hu=>by have Q:bM M w2 u:=S.trans (bM.below hu);have zC:=((d.trans Q).block K (zz006 j.klt r.size) j.ne).trans (r.block K j.klt);have zy:CS 196 46 u K M cap W H (AE W H f g bd cx cy ca cb x w b (o.take k) y c):=⟨zC.trans j.kb,HV.keep (hu.block M HV.lt),j.ne,j.hc⟩;have zE:PAll W H (AE W H f g bd cx cy ca cb x w b (o.take k) y c):=qt W H f g bd cx cy ca cb (P:=PAll W H) x w b _ y c (λy s c hc=>hc.wrL hW hH _ _ _ _ _ _ _ _ _ _) HP;refine Ut (sI u zy hW hH zE (F u (d.trans Q)) x (y+k) f g bd cx cy ca cb ⟨D.toArray⟩ (by show D.toArray.size<=_;rw[zi.2];omega) dg zA zx) ?_;rintro u' ⟨q1,q2⟩;exact⟨rfl,by rw[zh.out];exact q1,Q.trans q2⟩
  obtain⟨x0,x1,x2,x3,x4,x5,x6,x7,t0,t1,t2,t3,t4⟩:=HS wr (d.trans S);have zY:IntKind.i64.wrap (y+(k:Int))=y+k:=IntWalk.i64_in _ dg;clear hg C B zh HV F y0 y1 y2 y3 y4 y5 y6 y7 q0 q1 q2 q3 q4;go_wp2_with fail;go_region_held(λn=>n.cell? (aq A 0)=some (Pq K)/\n.cell? (aq A 1)=some (Iq f)/\n.cell? (aq A 2)=some (Iq g)/\n.cell? (aq A 3)=some (Iq bd)/\n.cell? (aq A 4)=some (Iq cx)/\n.cell? (aq A 5)=some (Iq cy)/\n.cell? (aq A 6)=some (Iq ca)/\n.cell? (aq A 7)=some (Iq cb)/\n.cell? (aq (A+1+1) 0)=some (Iq x)/\n.cell? (aq (A+1+1) 1)=some (Iq y)/\n.cell? (aq (A+1+1) 2)=some (Iq w)/\n.cell? (aq (A+1+1) 3)=some (Iq hh)/\n.cell? (aq (A+1) 8)=some (Iq b)) (go_keep) (first
   |(go_at_call 176;refine ag (AL _ (by first|exact .inl rfl|exact .inr rfl)) ?_;rintro e u1 ⟨rfl,zk⟩;obtain⟨d0,d1,d2,d3,d4,d5,d6,d7,e0,e1,e2,e3,e4⟩:=HS u1 ((d.trans S).trans (bM.below zk)))
   |(go_at_call 174;refine ag (WR _ zk) ?_;rintro e u2 ⟨rfl,zw,ze⟩;obtain⟨i0,i1,i2,i3,i4,i5,i6,i7,j0,j1,j2,j3,j4⟩:=HS u2 (d.trans ze)));all_goals
   go_wp2;go_roundw;.exact⟨k+1,zD,by go_num,zw,ze⟩
   .simp[intOf];omega
 .have zr:¬(k:Int)<(m:Int):=dg;obtain rfl:k=m:=dg;go_wp2;go_end0;exact⟨rfl,HV,(bM.below r).trans (d.trans S)⟩
end
def BV(W H:Nat)(f g bd cx cy ca cb kd a6 a7 a8 b0:Int)(t:zzf)(x y w hh:Int)(c:zzd):Nat->Nat->Ce:=
 if kd=3/\a6=1/\2<=w/\2<=hh then PQ W H f g bd cx cy ca cb x y w hh (if 0<b0 then oj W H c x y w hh f g bd cx cy ca cb else c)
 else if kd=5/\1<=w then AE W H f g bd cx cy ca cb x w a7 ((iU t a8 w).take hh.toNat) y (if 0<b0 then oj W H c x y w hh f g bd cx cy ca cb else c)
 else if 0<b0 then oj W H c x y w hh f g bd cx cy ca cb else c
def IV{W H}{P:(Nat->Nat->Ce)->Prop}{f g bd cx cy ca cb i b d e a}{t}{x y w hh}{c}(k:∀c,P c->P (oj W H c x y w hh f g bd cx cy ca cb))(l:∀x y s c,P c->P (wrL W H f g bd cx cy ca cb x y s c))(h:P c):P (BV W H f g bd cx cy ca cb i b d e a t x y w hh c):=by
 have j:P (if 0<a then oj W H c x y w hh f g bd cx cy ca cb else c):=by
  split;.grind
  .exact h
 unfold BV;split;.simp_all[FM]
 .split;all_goals simp_all[qt]
section
variable{K M cap W H:Nat} {c:zzd}
def Li w(h:CS 196 46 w K M cap W H c)(i:1<=W/\W<=400)(d:1<=H/\H<=400)(j:PAll W H c)x y a b f g bd cx cy ca cb:
 Cw 98 #[Pq K,rv x y a b,sv f g bd,rv cx cy ca cb] w λe w'=>e=Rw (.tuple #[])/\Cv 46 w' M W H (oj W H c x y a b f g bd cx cy ca cb)/\bM M w w':=
 rI w h i d j x y a b f g bd cx cy ca cb (dp W H x y a b cx cy ca cb).1 (dp W H x y a b cx cy ca cb).2.1 (dp W H x y a b cx cy ca cb).2.2.1 (dp W H x y a b cx cy ca cb).2.2.2 rfl
def En(C t:AT)(h:CS 196 46 t K M cap W H c)(hW:1<=W/\W<=400)(hH:1<=H/\H<=400)(hp:PAll W H c)(ht:aY C)(hU:Bq C t)(hM:C.heap.size<=M)(f g bd cx cy ca cb:Int)(a D E F G I J i j k L d N up:Int)(tx:BY)(R:Fd)(x y w hh:Int)(hs:tx.size<=100000)(hx:-100000000000<=x/\x<=100000000000)(hy:-100000000000<=y/\y<=100000000000)(hw:0<=w/\w<=100000)(zv:0<=hh/\hh<=100000)(zi:-1000000000000<=cy/\cy<=1000000000000)(zh:-1000000000000<=cb/\cb<=1000000000000):
 Cw 62 #[E0 K f g bd cx cy ca cb,eu a D E F G I J i j k L d N tx R up,rv x y w hh] t λe w'=>e=Rw (.tuple #[])/\Cv 46 w' M W H (BV W H f g bd cx cy ca cb a i j k d tx.data.toList x y w hh c)/\bM M t w':=by
 have ze:=h.cv.lt;obtain⟨A,hA⟩:=af t.heap.size;obtain⟨b,n⟩:=af (((t.alloc (.cells #[Pq K,Iq f,Iq g,Iq bd,Iq cx,Iq cy,Iq ca,Iq cb] 148)).alloc (.cells #[Iq a,Iq D,Iq E,Iq F,Iq G,Iq I,Iq J,Iq i,Iq j,Iq k,Iq L,Iq d,Iq N,.string tx,R,Iq up] 140)).alloc (.cells #[Iq x,Iq y,Iq w,Iq hh] 93));have l:Hid (Bq t b):=by rw[<-n];exact((((Gr.refl t).alloc _).alloc _).alloc _).below
 have zg:b.heap[A]?=some (.cells #[Pq K,Iq f,Iq g,Iq bd,Iq cx,Iq cy,Iq ca,Iq cb] 148 (0,0)):=by rw[<-n,<-hA,bG _ _ _ (by rw[ai,ai];omega),bG _ _ _ (by simp_all)];exact heap_alloc_new _ _
 have zk:b.heap[A+1]?=some (.cells #[Iq a,Iq D,Iq E,Iq F,Iq G,Iq I,Iq J,Iq i,Iq j,Iq k,Iq L,Iq d,Iq N,.string tx,R,Iq up] 140 (0,0)):=by rw[<-n,<-hA,bG _ _ _ (by simp_all),<-World.size_alloc];exact heap_alloc_new _ _
 have B:b.heap[A+1+1]?=some (.cells #[Iq x,Iq y,Iq w,Iq hh] 93 (0,0)):=by rw[<-n,<-hA,<-World.size_alloc,<-World.size_alloc];exact heap_alloc_new _ _
 have zu:Hid (A+1+1<b.heap.size):=(aj.1 B).1;have zw:Hid (M<A):=by rw[<-hA];exact ze
 have HS:Hid (∀u,bM M b u->(u.cell? (aq A 0)=some (Pq K)/\u.cell? (aq A 1)=some (Iq f)/\u.cell? (aq A 2)=some (Iq g)/\u.cell? (aq A 3)=some (Iq bd)/\u.cell? (aq A 4)=some (Iq cx)/\u.cell? (aq A 5)=some (Iq cy)/\u.cell? (aq A 6)=some (Iq ca)/\u.cell? (aq A 7)=some (Iq cb))/\(u.cell? (aq (A+1) 0)=some (Iq a)/\u.cell? (aq (A+1) 1)=some (Iq D)/\u.cell? (aq (A+1) 2)=some (Iq E)/\u.cell? (aq (A+1) 3)=some (Iq F)/\u.cell? (aq (A+1) 4)=some (Iq G)/\u.cell? (aq (A+1) 5)=some (Iq I)/\u.cell? (aq (A+1) 6)=some (Iq J)/\u.cell? (aq (A+1) 7)=some (Iq i)/\u.cell? (aq (A+1) 8)=some (Iq j)/\u.cell? (aq (A+1) 9)=some (Iq k)/\u.cell? (aq (A+1) 10)=some (Iq L)/\u.cell? (aq (A+1) 11)=some (Iq d)/\u.cell? (aq (A+1) 12)=some (Iq N)/\u.cell? (aq (A+1) 13)=some (.string tx)/\u.cell? (aq (A+1) 14)=some (R)/\u.cell? (aq (A+1) 15)=some (Iq up))/\u.cell? (aq (A+1+1) 0)=some (Iq x)/\u.cell? (aq (A+1+1) 1)=some (Iq y)/\u.cell? (aq (A+1+1) 2)=some (Iq w)/\u.cell? (aq (A+1+1) 3)=some (Iq hh)):=λu hu=>by
  have e1:=(hu.block A rn dg).trans zg;have e2:=(hu.block (A+1) rn dg).trans zk;have e3:=(hu.block (A+1+1) zu dg).trans B;refine⟨⟨?_,?_,?_,?_,?_,?_,?_,?_⟩,⟨?_,?_,?_,?_,?_,?_,?_,?_,?_,?_,?_,?_,?_,?_,?_,?_⟩,?_,?_,?_,?_⟩;all_goals first
   |(rw[Lib.cell_of_heap e1];rfl)
   |(rw[Lib.cell_of_heap e2];rfl)
   |(rw[Lib.cell_of_heap e3];rfl)
 obtain⟨⟨z0,z1,z2,z3,z4,z5,z6,z7⟩,⟨n0,n1,n2,n3,n4,n5,n6,n7,n8,n9,zl,zm,zn,zo,zq,zr⟩,r0,r1,r2,r3⟩:=HS b (bM.refl _ _);have z:=hU.trans (l.mono hU.size);have U:Hid (∀u,bM M b u->Bq C u):=λu hu=>hu.low hM z.size z;have v:Hid (∀c1 u,bM M b u->Cv 46 u M W H c1->CS 196 46 u K M cap W H c1):=λc1 u hu hv=>⟨((hu.block K (zz006 h.klt l.size) h.ne).trans (l.block K h.klt)).trans h.kb,hv,h.ne,h.hc⟩;have X:Hid (Cv 46 b M W H c):=h.cv.keep (l.block M ze);obtain⟨c1,r⟩:=af (if 0<d then oj W H c x y w hh f g bd cx cy ca cb else c);have T:Hid (PAll W H c1):=by
  rw[<-r];show PAll W H (if 0<d then _ else c);split;.exact hp.filX hW hH _ _ _ _ _ _ _ _ _ _ _
  .exact hp
 have Y:Hid (2<=w->2<=hh->∀u,bM M b u->Cv 46 u M W H c1->Cw 99 #[E0 K f g bd cx cy ca cb,rv x y w hh] u λe p=>e=Rw (.tuple #[])/\Hid (Cv 46 p M W H (PQ W H f g bd cx cy ca cb x y w hh c1))/\Hid (bM M b p)):=λq1 q2 u hu hv=>(oq C u (v c1 u hu hv) hW hH T ht (U u hu) hM f g bd cx cy ca cb x y w hh hx hy dg dg zi zh).mono λe p ⟨h1,h2,h3⟩=>⟨h1,h2,hu.trans h3⟩;have Z:Hid (∀u,bM M b u->Cv 46 u M W H c1->Cw 100 #[E0 K f g bd cx cy ca cb,eu a D E F G I J i j k L d N tx R up,rv x y w hh] u λe p=>e=Rw (.tuple #[])/\Hid (Cv 46 p M W H (AE W H f g bd cx cy ca cb x w j ((iU tx.data.toList k w).take hh.toNat) y c1))/\Hid (bM M b p)):=λu hu hv=>(rj C u (v c1 u hu hv) hW hH T ht (U u hu) hM f g bd cx cy ca cb a D E F G I J i j k L d N up tx R x y w hh hs hx hy hw zv zi zh).mono λe p ⟨h1,h2,h3⟩=>⟨h1,h2,hu.trans h3⟩;have FI:Hid (0<d->Cw 98 #[Pq K,rv x y w hh,sv f g bd,rv cx cy ca cb] b λe p=>e=Rw (.tuple #[])/\Hid (Cv 46 p M W H c1)/\Hid (bM M b p)):=λhb=>by rw[<-r,if_pos hb];exact Li b (v c b (bM.refl _ _) X) hW hH hp x y w hh f g bd cx cy ca cb
 have zt:Hid (¬0<d->c1=c):=λhb=>rn;have o:((a==3)=true/\(i==1)=true/\2<=w/\2<=hh/\Hid (BV W H f g bd cx cy ca cb a i j k d tx.data.toList x y w hh c=PQ W H f g bd cx cy ca cb x y w hh c1))\/((a==3)=true/\(a==5)=false/\(i==1)=true/\2<=w/\¬2<=hh/\Hid (BV W H f g bd cx cy ca cb a i j k d tx.data.toList x y w hh c=c1))\/((a==3)=true/\(a==5)=false/\(i==1)=true/\¬2<=w/\Hid (BV W H f g bd cx cy ca cb a i j k d tx.data.toList x y w hh c=c1))\/((a==3)=true/\(a==5)=false/\(i==1)=false/\Hid (BV W H f g bd cx cy ca cb a i j k d tx.data.toList x y w hh c=c1))\/((a==3)=false/\(a==5)=true/\1<=w/\Hid (BV W H f g bd cx cy ca cb a i j k d tx.data.toList x y w hh c=AE W H f g bd cx cy ca cb x w j ((iU tx.data.toList k w).take hh.toNat) y c1))\/((a==3)=false/\(a==5)=true/\¬1<=w/\Hid (BV W H f g bd cx cy ca cb a i j k d tx.data.toList x y w hh c=c1))\/((a==3)=false/\(a==5)=false/\Hid (BV W H f g bd cx cy ca cb a i j k d tx.data.toList x y w hh c=c1)):=by
  unfold BV;rw[r];by_cases Q:a=3;.grind
  .grind
 obtain⟨cz,zj⟩:=af (BV W H f g bd cx cy ca cb a i j k d tx.data.toList x y w hh c);rw[zj]at o|-;clear h hp ht hU z zg zk B r zj;unfold E0 rv at Y;unfold E0 rv eu at Z;unfold sv rv at FI;unfold E0 eu rv;go_enter func62,ntmps62;by_cases hb:0<d;focus go_wp2_with fail;clear n hA;refine Ut (FI hb) ?_;rintro u1 ⟨q,m⟩;clear z0 z1 z2 z3 z4 z5 z6 z7 n0 n1 n2 n3 n4 n5 n6 n7 n8 n9 zl zm zn zo zq zr r0 r1 r2 r3;obtain⟨⟨z0,z1,z2,z3,z4,z5,z6,z7⟩,⟨n0,n1,n2,n3,n4,n5,n6,n7,n8,n9,zl,zm,zn,zo,zq,zr⟩,r0,r1,r2,r3⟩:=HS u1 m
 rotate_left;focus
  have q:Hid (Cv 46 b M W H c1):=by rw[zt hb];exact X
  have m:Hid (bM M b b):=bM.refl _ _
 all_goals
  rcases o with⟨O,P,Q,k4,s⟩|⟨O,k0,P,Q,k4,s⟩|⟨O,k0,P,Q,s⟩|⟨O,k0,P,s⟩|⟨O,P,Q,s⟩|⟨O,P,Q,s⟩|⟨O,P,s⟩;all_goals
   go_wp2_with(first|(go_at_call 99;refine ag (Y Q k4 _ m q) ?_;rintro e u2 ⟨rfl,V,S⟩)|(go_at_call 100;refine ag (Z _ m q) ?_;rintro e u2 ⟨rfl,V,S⟩));go_end0;first
    |exact⟨rfl,by rw[s.out];exact V,(bM.below l).trans S⟩
    |exact⟨rfl,by rw[s.out];exact q,(bM.below l).trans m⟩
end
