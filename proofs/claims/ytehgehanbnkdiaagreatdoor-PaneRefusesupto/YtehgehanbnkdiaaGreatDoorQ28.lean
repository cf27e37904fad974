import Derived.Test.YtehgehanbnkdiaaGreatDoorQ26
import Derived.Test.YtehgehanbnkdiaaGreatDoorQ07
set_option linter.all false
set_option maxRecDepth 100000
set_option maxHeartbeats 16000000
namespace Go.Proofs.YtehgehanbnkdiaaGreatDoor
open Go.RowKit Go.Proofs.Tryz
structure ee(W:AT)(E:zzi):Prop where
 blk:∀c,1<=c->c<=7->∃xs t,W.heap[(E c).block]?=some (.cells xs t (0,0))
 inj:∀c d,1<=c->c<=7->1<=d->d<=7->c≠d->E c≠E d
def ee.below{W W'}{E}(h:ee W E)(e:Bq W W'):ee W' E:=
 ⟨λc b d=>by obtain⟨f,t,a⟩:=h.blk c b d;exact⟨f,t,(e.block _ (aj.1 a).1).trans a⟩,h.inj⟩
def gG:Option (Nat×Nat)->Nat
 |none=>1
 |some (c,_)=>c
def mC:Option (Nat×Nat)->Nat
 |none=>0
 |some (_,p)=>p
def G8 p c d E w(b:ee w E)(a:1<=c/\c<=7)(hd:1<=d/\d<=7):
 Cw 89 #[cB p (aT (E c)),aT (E d)] w λe w'=>e=Rw (.bool (decide (c=d)))/\Bq w w':=by
 by_cases h:c=d;.subst h;rw[decide_eq_true rfl];exact q_ p (E c) w
 .rw[decide_eq_false h];obtain⟨g,t,f⟩:=b.blk c a.1 a.2;obtain⟨i,u,hy⟩:=b.blk d hd.1 hd.2;exact pG p (E c) (E d) g i t u w (b.inj c d a.1 a.2 hd.1 hd.2 h) f hy
def qK.cells{W W'}{E}(h:qK W E)(a:Bq W W'):qK W' E:=by have e:=h.sz;have c:∀(g:Nat) (v:Fd),g<9->W.cell? (aq g 0)=some v->W'.cell? (aq g 0)=some v:=λg v f d=>(a.cell (p:=(aq g 0)) rn).trans d;exact⟨aA e a.size,λj b=>(a.cell (p:=(aq 8 j)) rn).trans (h.kn j b),c _ _ (by decide) h.g1,c _ _ (by decide) h.g2,c _ _ (by decide) h.g3,c _ _ (by decide) h.g4,c _ _ (by decide) h.g5,c _ _ (by decide) h.g6,c _ _ (by decide) h.g7⟩
def yl(E:zzi)(w:AT)(hG:qK w E):Cw 55 #[aT (E 1)] w λe w'=>e=Rw (Iq 1)/\w'=w:=by have IS:Hid (Cw 89 #[aT (E 1),aT (E 1)] w λe w'=>e=Rw (.bool true)/\w'=w):=Lz (E 1) w;have b:=hG.g1;unfold aT at*;go_enter func55,ntmps55;go_wp2_with(go_at_call 89;refine ag IS ?_;rintro e c ⟨rfl,a⟩;obtain rfl:=a.symm);go_ret;simp_all
def Lh(p:Int)(c:Nat)(E:zzi)(w:AT)(hG:qK w E)(A:ee w E)(f:2<=c/\c<=7):Cw 55 #[cB p (aT (E c))] w λe w'=>e=Rw (Iq (c:Int))/\Bq w w':=by
 have IS:Hid (∀d b w',1<=d/\d<=7->decide (c=d)=b->Bq w w'->Cw 89 #[cB p (aT (E c)),aT (E d)] w' λe i=>e=Rw (.bool b)/\Hid (Bq w i)):=λd b w' hd s t=>by subst s;refine Ut (G8 p c d E w' (A.below t) dg hd) ?_;rintro i h;exact⟨rfl,t.trans (h.mono t.size)⟩
 have g:=qH<|λw' s=>qK.cells (W':=w') hG s;have D:=hG.g1;clear hG A;unfold aT cB at*;go_enter func55,ntmps55;go_wp2_with fail;clear D;refine ag (IS 1 false _ dg rn Ok) ?_;rintro e F ⟨rfl,k⟩;have u:=(g F k).g3;unfold aT at u;go_wp2_with fail;clear u;by_cases c3:c=3;.refine ag (IS 3 true _ dg rn k) ?_;rintro e j ⟨rfl,a⟩;have C:=qH<|c3;clear c3 f;go_wp2;go_ret;exact⟨by rw[C.out];rfl,a⟩
 .refine ag (IS 3 false _ dg rn k) ?_;rintro e G ⟨rfl,l⟩;have v:=(g G l).g4;unfold aT at v;go_wp2_with fail;clear v;by_cases c4:c=4;.refine ag (IS 4 true _ dg rn l) ?_;rintro e j ⟨rfl,a⟩;have C:=qH<|c4;clear c4 f;go_wp2;go_ret;exact⟨by rw[C.out];rfl,a⟩
  .refine ag (IS 4 false _ dg rn l) ?_;rintro e w3 ⟨rfl,m⟩;have x:=(g w3 m).g5;unfold aT at x;go_wp2_with fail;clear x;by_cases c5:c=5;.refine ag (IS 5 true _ dg rn m) ?_;rintro e j ⟨rfl,a⟩;have C:=qH<|c5;clear c5 f;go_wp2;go_ret;exact⟨by rw[C.out];rfl,a⟩
   .refine ag (IS 5 false _ dg rn m) ?_;rintro e H ⟨rfl,n⟩;have y:=(g H n).g6;unfold aT at y;go_wp2_with fail;clear y;by_cases q:c=6;.refine ag (IS 6 true _ dg rn n) ?_;rintro e j ⟨rfl,a⟩;have C:=qH<|q;clear q f;go_wp2;go_ret;exact⟨by rw[C.out];rfl,a⟩
    .refine ag (IS 6 false _ dg rn n) ?_;rintro e I ⟨rfl,o⟩;have z:=(g I o).g7;unfold aT at z;go_wp2_with fail;clear z;by_cases r:c=7;.refine ag (IS 7 true _ dg rn o) ?_;rintro e j ⟨rfl,a⟩;have C:=qH<|r;clear r f;go_wp2;go_ret;exact⟨by rw[C.out];rfl,a⟩
     .refine ag (IS 7 false _ dg rn o) ?_;rintro e K ⟨rfl,B⟩;have C:Hid (c=2):=qH<|by omega
      clear c3 c4 c5 q r f;go_wp2;go_ret;exact⟨by rw[C.out];rfl,B⟩
def errno_any x E w(hG:qK w E)(a:ee w E)(b:∀c p,x=some (c,p)->2<=c/\c<=7):Cw 55 #[pv E x] w λe w'=>e=Rw (Iq (gG x:Int))/\Bq w w':=by
 cases x with
 |none=>exact ag (yl E w hG) (λe w' h=>⟨h.1,by rw[h.2];exact Ok⟩)
 |some q=>obtain⟨c,p⟩:=q;exact Lh p c E w hG a (b c p rfl)
def qJ(W:AT):Prop:=6<W.heap.size/\W.cell? (aq 6 0)=some (.iface 312 (.agg #[.pointer (some (aq 18 133))]))
def qJ.below{W W'}(h:qJ W)(a:Bq W W'):qJ W':=⟨zz006 h.1 a.size,(a.cell (p:=(aq 6 0)) h.1).trans h.2⟩
def wV(p:Int)(c:Fd)(k:c.oneCell'=true)(w:AT)(s:qJ w):Cw 56 #[.iface 186 (.agg #[Iq p,c])] w λe w'=>e=Rw (Iq p)/\Bq w w':=by
 obtain⟨a,b⟩:=af (w.alloc (.cells #[Iq 0,.nilIface] 186));have d:qJ a:=by rw[<-b];exact s.below No
 obtain⟨S,hS⟩:=af w.heap.size;have g:a.heap[S]?=some (.cells #[Iq 0,.nilIface] 186 (0,0)):=by rw[<-b,<-hS];exact heap_alloc_new _ _
 have n:=(aj.1 g).1;have l:=Ol S p c (Iq 0) .nilIface a d.1 d.2 n (by simp[World.cell?,g]) (by simp[World.cell?,g]) (λj=>frozen_of_row _ _ _ _ _ g) k;have i:Hid (∀w',w'=((((((a.alloc (.cells #[Pq S] 188)).alloc (.cells #[.pointer (some (aq 18 188)),Pq a.heap.size,.int .u64 150] 248)).alloc (.cells #[.pointer (some (aq 18 188)),Pq a.heap.size,.int .u64 150] 248)).alloc (.cells #[Iq p,c] 186)).setCell (aq S 0) (Iq p)).setCell (aq S 1) c)->Bq w w'/\w'.cell? (aq S 0)=some (Iq p)):=by
  rintro w' rfl;have m:Bq w a:=by rw[<-b];exact No
  have v:=m.size;have r:=(((m.alloc v (.cells #[Pq S] 188)).alloc (by rw[ai];omega) (.cells #[.pointer (some (aq 18 188)),Pq a.heap.size,.int .u64 150] 248)).alloc (by simp only[ai];omega) (.cells #[.pointer (some (aq 18 188)),Pq a.heap.size,.int .u64 150] 248)).alloc (by simp only[ai];omega) (.cells #[Iq p,c] 186);have h:w.heap.size<=S:=dg;refine⟨(r.setCell h _).setCell h _,?_⟩;have t:(((((a.alloc (.cells #[Pq S] 188)).alloc (.cells #[.pointer (some (aq 18 188)),Pq a.heap.size,.int .u64 150] 248)).alloc (.cells #[.pointer (some (aq 18 188)),Pq a.heap.size,.int .u64 150] 248)).alloc (.cells #[Iq p,c] 186)).setCell (aq S 0) (Iq p)).cell? (aq S 0)=some (Iq p):=by refine kF (u:=Iq 0) _ _ _ ?_;rw[fy _ _ (aq S 0) (by simp only[ai];omega),fy _ _ (aq S 0) (by simp only[ai];omega),fy _ _ (aq S 0) (by simp only[ai];omega),fy _ _ (aq S 0) n];simp[World.cell?,g]
  rw[cu _ _ _ _ (λe=>rn)];exact t
 go_enter func56,ntmps56;go_wp2_with fail;refine ag l ?_;rintro e o ⟨rfl,f⟩;have q:=qH<|(i o f).1;have x:=(i o f).2;clear f i l b g d;go_wp2;go_ret;exact⟨rfl,q⟩
def wW(a:Addr)(w:AT)(k:qJ w):Cw 56 #[.iface 460 (.pointer (some a))] w λe w'=>e=Rw (Iq 0)/\Bq w w':=by
 obtain⟨c,d⟩:=af (w.alloc (.cells #[Iq 0,.nilIface] 186));have g:Bq w c:=by rw[<-d];exact No
 have b:=k.below g;obtain⟨S,hS⟩:=af w.heap.size;have h:=Ko S a c b.1 b.2;have i:Hid (∀w',w'=(((c.alloc (.cells #[Pq S] 188)).alloc (.cells #[.pointer (some (aq 18 188)),Pq c.heap.size,.int .u64 150] 248)).alloc (.cells #[.pointer (some (aq 18 188)),Pq c.heap.size,.int .u64 150] 248))->Bq w w'):=by rintro w' rfl;have l:=g.size;exact((g.alloc l _).alloc (by rw[ai];omega) _).alloc (by simp only[ai];omega) _
 go_enter func56,ntmps56;go_wp2_with fail;refine ag h ?_;rintro e m ⟨rfl,f⟩;have j:=qH<|i m f;clear f i h d b g;go_wp2;go_ret;exact⟨rfl,j⟩
def Er x E w(a:qJ w):Cw 56 #[pv E x] w λe w'=>e=Rw (Iq (mC x:Int))/\Bq w w':=by
 cases x with
 |none=>exact wW (E 1) w a
 |some q=>exact wV q.2 (aT (E q.1)) rfl w a
section
open Go.Stop
def Qv x E w:(Instr.typeAssert (pv E x) 20 133 true).run prog w=.ok (.tuple #[pv E x,.bool true]) w:=by
 cases x with
 |none=>exact run_typeAssert_hasB underlying133 pt _ _ w
 |some q=>exact run_typeAssert_hasB underlying133 pt _ _ w
def FC w:(Instr.typeAssert .nilIface 20 133 true).run prog w=.ok (.tuple #[.nilIface,.bool false]) w:=pt
def uL(a b B:Nat)(m k:Int)(x:Option (Nat×Nat))(E:zzi)(w:AT)(hB:B<=a/\B<=b/\a≠b/\B<=w.heap.size)(A:w.heap[a]?=some (.cells #[Iq m] 30 (0,0)))(C:w.heap[b]?=some (.cells #[Iq k] 3 (0,0)))(hG:qK w E)(y:ee w E)(z:qJ w)(G:∀c p,x=some (c,p)->2<=c/\c<=7):
 CallsD prog 54 #[Pq a,Pq b] (.panicking [{v:=pv E x,recovered:=false}]) w λe J w'=>
  e=Rw (.tuple #[])/\J=.panicking [{v:=pv E x,recovered:=true}]/\w'.cell? (aq a 0)=some (Iq (gG x:Int))/\w'.cell? (aq b 0)=some (Iq (mC x:Int))/\Below B w w':=by
 have r:=Qv x E;have n:=qH<|errno_any x E w hG y G;have q:=qH<|λw' H=>Er x E w' (z.below H);have g:=qH<|hB;have l:Hid (w.heap[a]?=some (.cells #[Iq m] 30 (0,0))/\w.heap[b]?=some (.cells #[Iq k] 3 (0,0))):=⟨A,C⟩;obtain⟨v,F⟩:=af (pv E x);rw[F]at r n q|-;clear F hG y z G hB A C;refine callsD_of_wpS func54 rfl λL K hu=>?_;apply wpS_seq;apply wpS_region;simp[wpOpsS,go_sem,recoverD,hu,ntmps54,Exit.thenS,r];have D:(#[Pq a,Pq b]++(((((((Array.replicate 12 undef).setIfInBounds 3 v).setIfInBounds 4 (Value.tuple #[v,Value.bool true])).setIfInBounds 2 (Value.tuple #[v,Value.bool true])).setIfInBounds 5 v).setIfInBounds 6 (Value.bool true)).setIfInBounds 0 v).setIfInBounds 1 (Value.bool true))=#[Pq a,Pq b,v,.bool true,.tuple #[v,.bool true],v,.tuple #[v,.bool true],v,.bool true,undef,undef,undef,undef,undef]:=by rfl
 rw[D];clear D;refine wpS_of_wp ?_;go_wp2_with fail;refine ag n ?_;rintro e M ⟨rfl,s⟩;have f:=qH<|s;clear s n;go_wp2_with fail;refine ag (q _ f) ?_;rintro e i ⟨rfl,t⟩;have j:=qH<|f.trans (t.mono f.size);clear t q f;have h:Hid (i.heap[a]?=some (.cells #[Iq m] 30 (0,0))/\i.heap[b]?=some (.cells #[Iq k] 3 (0,0))):=⟨(j.block _ (aj.1 l.1).1).trans l.1,(j.block _ (aj.1 l.2).1).trans l.2⟩;have d0:i.cell? (aq a 0)=some (Iq m):=by simp[World.cell?,h.1]
 have d1:i.cell? (aq b 0)=some (Iq k):=by simp[World.cell?,h.2]
 have f0:i.frozen? (aq a 0)=false:=frozen_of_row _ _ _ _ _ h.1;have f1:i.frozen? (aq b 0)=false:=frozen_of_row _ _ _ _ _ h.2;have I:¬a=b:=g.2.2.1;have o:Hid (((i.setCell (aq a 0) (Iq (gG x:Int))).setCell (aq b 0) (Iq (mC x:Int))).cell? (aq a 0)=some (Iq (gG x:Int))/\((i.setCell (aq a 0) (Iq (gG x:Int))).setCell (aq b 0) (Iq (mC x:Int))).cell? (aq b 0)=some (Iq (mC x:Int))/\Below B w ((i.setCell (aq a 0) (Iq (gG x:Int))).setCell (aq b 0) (Iq (mC x:Int)))):=by
  refine⟨?_,?_,?_⟩;.rw[cu _ _ _ _ (λe=>rn)];exact kF _ _ _ d0
  .refine kF (u:=Iq k) _ _ _ ?_;rw[cu _ _ _ _ (λe=>rn)];exact d1
  .exact((j.mono g.2.2.2).setCell g.1 _).setCell g.2.1 _
 go_wp2;exact⟨rfl,_,rfl,.tuple #[],by simp[results,Tryz.results54,go_sem],rfl,rfl,o.1,o.2.1,o.2.2⟩
def yb(a b:Nat)(w:AT):
 CallsD prog 54 #[Pq a,Pq b] .returning w λe g w'=>e=Rw (.tuple #[])/\g=.returning/\w'=w:=by
 have d:=FC;refine callsD_of_wpS func54 rfl λf h hu=>?_;apply wpS_seq;apply wpS_region;simp[wpOpsS,go_sem,recoverD,hu,ntmps54,Exit.thenS,d];have c:(#[Pq a,Pq b]++(((((((Array.replicate 12 undef).setIfInBounds 3 Value.nilIface).setIfInBounds 4 (Value.tuple #[Value.nilIface,Value.bool false])).setIfInBounds 2 (Value.tuple #[Value.nilIface,Value.bool false])).setIfInBounds 5 Value.nilIface).setIfInBounds 6 (Value.bool false)).setIfInBounds 0 Value.nilIface).setIfInBounds 1 (Value.bool false))=#[Pq a,Pq b,.nilIface,.bool false,.tuple #[.nilIface,.bool false],.nilIface,.tuple #[.nilIface,.bool false],.nilIface,.bool false,undef,undef,undef,undef,undef]:=by rfl
 rw[c];clear c;refine wpS_of_wp ?_;go_wp2;refine⟨rfl,.returning,?_,.tuple #[],by simp[results,Tryz.results54,go_sem],rfl,rfl,rfl⟩;cases f;simp_all
def NB(w w':AT)(e:Ending)(r:Except (Option (Nat×Nat)) (List Nd)):Prop:=Bq w w'/\match r with
 |.error x=>e=Rw (.tuple #[.slice none 0 0,Iq (gG x:Int),Iq (mC x:Int)])
 |.ok L=>∃nv KV,e=Rw (.tuple #[nv,Iq 0,Iq 0])/\PN w' w.heap.size nv L KV
def tparse_any(s:BY)(E:zzi)(w:AT)(hG:qK w E)(C:ee w E)(D:qJ w):
 Cw 29 #[.string s] w λe w'=>NB w w' e (bv s):=by
 have M:∀(fn:Fn) (first m:Array Fd) (w:AT),(Instr.makeFunc fn first m).run prog w=.ok (.func fn first m) w:=λ_ _ _ _=>rfl;obtain⟨S,hS⟩:=af w.heap.size;obtain⟨k,j⟩:=af ((w.alloc (.cells #[Iq 0] 30)).alloc (.cells #[Iq 0] 3));have q:Hid (Bq w k):=by rw[<-j];exact No.alloc (by simp_all) _
 have RD:=qH<|readTree_any s E k (hG.cells q);have t:Hid (k.heap[S]?=some (.cells #[Iq 0] 30 (0,0))/\k.heap[S+1]?=some (.cells #[Iq 0] 3 (0,0))/\k.heap.size=S+2):=by
  rw[<-j,<-hS];refine⟨?_,?_,by simp only[ai]⟩;.rw[bG _ _ _ (by simp_all)];exact heap_alloc_new _ _
  .have:=heap_alloc_new (w.alloc (.cells #[Iq 0] 30)) (.cells #[Iq 0] 3);simp_all
 have i:Hid (∀w',Bq w w'->qK w' E/\ee w' E/\qJ w'):=λw' v=>⟨hG.cells v,C.below v,D.below v⟩;have A:=qH<|hS;clear hG C D;go_enter_defers func29,ntmps29;go_wp2_with fail;clear j hS;refine ag RD ?_;rintro e a ⟨l,o⟩;have n:=t.2.2;have d:=qH<|q.trans (l.mono q.size);have b:Hid (a.heap[S]?=some (.cells #[Iq 0] 30 (0,0))/\a.heap[S+1]?=some (.cells #[Iq 0] 3 (0,0))):=⟨(l.block _ dg).trans t.1,(l.block _ dg).trans t.2.1⟩;have h:Hid (S<=a.heap.size/\k.heap.size=S+2):=⟨by have:=l.size;omega,n⟩;clear l n RD;cases hp:bv s with
 |error x=>rw[hp]at o;subst o;have g:=qH<|hp;have y:=uL S (S+1) S 0 0 x E a ⟨LE,dg,dg,h.1⟩ b.1 b.2 (i a d).1 (i a d).2.1 (i a d).2.2 (λc p e=>qc (by rw[g.out,e]));clear hp;refine leaves_cons (f:=54) (args:=#[Pq S,Pq (S+1)]) At (by simp[go_sem]) ?_;refine y.mono ?_;rintro e P Q ⟨rfl,rfl,I,c1,B⟩;have r:=qH<|d.trans (by rw[A.out];exact B);clear B y;simp[Leaves,settle,results,Tryz.results29,go_sem,I,c1];refine⟨r,?_⟩;rw[g.out]
 |ok L=>
  rw[hp]at o;obtain⟨G,KV,rfl,F⟩:=o;have g:=qH<|hp;have H:=qH<|F;clear F hp;have d0:a.cell? (aq S 0)=some (Iq 0):=by simp[World.cell?,b.1]
  have d1:a.cell? (aq (S+1) 0)=some (Iq 0):=by simp[World.cell?,b.2]
  have f0:a.frozen? (aq S 0)=false:=frozen_of_row _ _ _ _ _ b.1;have f1:a.frozen? (aq (S+1) 0)=false:=frozen_of_row _ _ _ _ _ b.2;have z:Hid (Bq w ((a.setCell (aq S 0) (Iq 0)).setCell (aq (S+1) 0) (Iq 0))/\PN ((a.setCell (aq S 0) (Iq 0)).setCell (aq (S+1) 0) (Iq 0)) w.heap.size G L KV):=by
   have J:w.heap.size<=S:=by rw[A.out];exact LE
   have K:w.heap.size<=S+1:=dg;refine⟨(d.setCell J _).setCell K _,PN.base (H.up ((Up.set a (by rw[h.2];omega) _).trans (Up.set _ (by rw[h.2];omega) _))) (by rw[h.2];omega)⟩
  have N:((a.setCell (aq S 0) (Iq 0)).setCell (aq (S+1) 0) (Iq 0)).cell? (aq S 0)=some (Iq 0):=by rw[cu _ _ _ _ (λe=>rn)];exact kF _ _ _ d0
  have O:((a.setCell (aq S 0) (Iq 0)).setCell (aq (S+1) 0) (Iq 0)).cell? (aq (S+1) 0)=some (Iq 0):=by refine kF (u:=Iq 0) _ _ _ ?_;rw[cu _ _ _ _ (λe=>rn)];exact d1
  go_wp2;refine leaves_cons (f:=54) (args:=#[Pq S,Pq (S+1)]) At (by simp[go_sem]) ?_;refine(yb S (S+1) _).mono ?_;rintro e P Q ⟨rfl,rfl,rfl⟩;simp[Leaves,settle,results,Tryz.results29,go_sem,N,O];refine⟨z.1,?_⟩;rw[g.out];exact⟨G,KV,rfl,z.2⟩
end
def jU n w:Cw 10 #[Iq n] w λe w'=>e=Rw (Iq n)/\w'=w:=by go_enter func10,ntmps10;go_wp2;go_ret;simp_all
def de{s}{L}(h:bv s=.ok L):fF s=.ok L:=by rw[<-uf,h];rfl
def lT{s}{x}(h:bv s=.error x):fF s=.error (gG x,mC x):=by
 rw[<-uf,h];cases x with
 |none=>rfl
 |some q=>rfl
def lH{s}{x}(h:bv s=.error x):1<=gG x:=by
 cases x with
 |none=>exact LE
 |some q=>obtain⟨c,p⟩:=q;have:=(qc h).1;show 1<=c;omega
