import Derived.Test.YtaanagpadfcmlaaGreatDoorQ27
import Derived.Test.YtaanagpadfcmlaaGreatDoorQ07
set_option linter.all false
set_option maxRecDepth 100000
set_option maxHeartbeats 16000000
namespace Go.Proofs.YtaanagpadfcmlaaGreatDoor
open Go.RowKit Go.Proofs.Tryz
structure gM(W:World)(E:Nat->Addr):Prop where
 blk:∀c,1<=c->c<=7->∃xs t,W.heap[(E c).block]?=some (.cells xs t (0,0))
 inj:∀c d,1<=c->c<=7->1<=d->d<=7->c≠d->E c≠E d
theorem gM.below{W W'}{E}(h:gM W E)(d:Bt W W'):gM W' E:=
 ⟨λc h1 b=>by obtain⟨e,t,a⟩:=h.blk c h1 b;exact⟨e,t,(d.block _ (aD.1 a).1).trans a⟩,h.inj⟩
def iq:Option (Nat×Nat)->Nat
 |none=>1
 |some (c,_)=>c
def l8:Option (Nat×Nat)->Nat
 |none=>0
 |some (_,p)=>p
theorem ID p c d E w(b:gM w E)(a:1<=c/\c<=7)(hd:1<=d/\d<=7):
 Cw 52 #[cP p (bi (E c)),bi (E d)] w λe w'=>e=Rw (.bool (decide (c=d)))/\Bt w w':=by
 by_cases h:c=d;·subst h;rw[decide_eq_true rfl];exact sV p (E c) w
 ·rw[decide_eq_false h];obtain⟨g,t,f⟩:=b.blk c a.1 a.2;obtain⟨i,u,hy⟩:=b.blk d hd.1 hd.2;exact qW p (E c) (E d) g i t u w (b.inj c d a.1 a.2 hd.1 hd.2 h) f hy
theorem vY.cells{W W'}{E}(h:vY W E)(a:Bt W W'):vY W' E:=by have e:=h.sz;have c:∀(g:Nat) (v:Value),g<9->W.cell? (aj g 0)=some v->W'.cell? (aj g 0)=some v:=λg v f d=>(a.cell (p:=(aj g 0)) rd).trans d;exact⟨aF e a.size,λj b=>(a.cell (p:=(aj 8 j)) rd).trans (h.kn j b),c _ _ (by decide) h.g1,c _ _ (by decide) h.g2,c _ _ (by decide) h.g3,c _ _ (by decide) h.g4,c _ _ (by decide) h.g5,c _ _ (by decide) h.g6,c _ _ (by decide) h.g7⟩
theorem A_(E:Nat->Addr)(w:World)(hG:vY w E):Cw 23 #[bi (E 1)] w λe w'=>e=Rw (Iq 1)/\w'=w:=by have IS:Hid (Cw 52 #[bi (E 1),bi (E 1)] w λe w'=>e=Rw (.bool true)/\w'=w):=LJ (E 1) w;have b:=hG.g1;unfold bi at*;go_enter func23,ntmps23;go_wp2_with(go_at_call 52;refine ag IS ?_;rintro e c ⟨rfl,a⟩;obtain rfl:=a.symm);go_ret;simp_all
theorem Lp(p:Int)(c:Nat)(E:Nat->Addr)(w:World)(hG:vY w E)(A:gM w E)(f:2<=c/\c<=7):Cw 23 #[cP p (bi (E c))] w λe w'=>e=Rw (Iq (c:Int))/\Bt w w':=by
 have IS:Hid (∀d b w',1<=d/\d<=7->decide (c=d)=b->Bt w w'->Cw 52 #[cP p (bi (E c)),bi (E d)] w' λe i=>e=Rw (.bool b)/\Hid (Bt w i)):=λd b w' hd s t=>by subst s;refine(ID p c d E w' (A.below t) dg hd).mono ?_;rintro e i ⟨rfl,h⟩;exact⟨rfl,t.trans (h.mono t.size)⟩
 have g:=qH<|λw' s=>vY.cells (W':=w') hG s;have D:=hG.g1;clear hG A;unfold bi cP at*;go_enter func23,ntmps23;go_wp2_with fail;clear D;refine ag (IS 1 false _ dg rd (af _ _)) ?_;rintro e F ⟨rfl,k⟩;have u:=(g F k).g3;unfold bi at u;go_wp2_with fail;clear u;by_cases c3:c=3;·refine ag (IS 3 true _ dg rd k) ?_;rintro e j ⟨rfl,a⟩;have C:=qH<|c3;clear c3 f;go_wp2;go_ret;exact⟨by rw[C.out];rfl,a⟩
 ·refine ag (IS 3 false _ dg rd k) ?_;rintro e G ⟨rfl,l⟩;have v:=(g G l).g4;unfold bi at v;go_wp2_with fail;clear v;by_cases c4:c=4;·refine ag (IS 4 true _ dg rd l) ?_;rintro e j ⟨rfl,a⟩;have C:=qH<|c4;clear c4 f;go_wp2;go_ret;exact⟨by rw[C.out];rfl,a⟩
  ·refine ag (IS 4 false _ dg rd l) ?_;rintro e w3 ⟨rfl,m⟩;have x:=(g w3 m).g5;unfold bi at x;go_wp2_with fail;clear x;by_cases c5:c=5;·refine ag (IS 5 true _ dg rd m) ?_;rintro e j ⟨rfl,a⟩;have C:=qH<|c5;clear c5 f;go_wp2;go_ret;exact⟨by rw[C.out];rfl,a⟩
   ·refine ag (IS 5 false _ dg rd m) ?_;rintro e H ⟨rfl,n⟩;have y:=(g H n).g6;unfold bi at y;go_wp2_with fail;clear y;by_cases q:c=6;·refine ag (IS 6 true _ dg rd n) ?_;rintro e j ⟨rfl,a⟩;have C:=qH<|q;clear q f;go_wp2;go_ret;exact⟨by rw[C.out];rfl,a⟩
    ·refine ag (IS 6 false _ dg rd n) ?_;rintro e I ⟨rfl,o⟩;have z:=(g I o).g7;unfold bi at z;go_wp2_with fail;clear z;by_cases r:c=7;·refine ag (IS 7 true _ dg rd o) ?_;rintro e j ⟨rfl,a⟩;have C:=qH<|r;clear r f;go_wp2;go_ret;exact⟨by rw[C.out];rfl,a⟩
     ·refine ag (IS 7 false _ dg rd o) ?_;rintro e K ⟨rfl,B⟩;have C:Hid (c=2):=by show _=_;omega
      clear c3 c4 c5 q r f;go_wp2;go_ret;exact⟨by rw[C.out];rfl,B⟩
theorem errno_any x E w(hG:vY w E)(a:gM w E)(b:∀c p,x=some (c,p)->2<=c/\c<=7):Cw 23 #[pv E x] w λe w'=>e=Rw (Iq (iq x:Int))/\Bt w w':=by
 cases x with
 |none=>exact ag (A_ E w hG) (λe w' h=>⟨h.1,by rw[h.2];exact af _ _⟩)
 |some q=>obtain⟨c,p⟩:=q;exact Lp p c E w hG a (b c p rfl)
def vX(W:World):Prop:=6<W.heap.size/\W.cell? (aj 6 0)=some (.iface 258 (.agg #[.pointer (some (aj 18 83))]))
theorem vX.below{W W'}(h:vX W)(a:Bt W W'):vX W':=⟨zz007 h.1 a.size,(a.cell (p:=(aj 6 0)) h.1).trans h.2⟩
theorem yn(p:Int)(c:Value)(k:c.oneCell'=true)(w:World)(s:vX w):Cw 24 #[.iface 131 (.agg #[Iq p,c])] w λe w'=>e=Rw (Iq p)/\Bt w w':=by
 obtain⟨a,b⟩:=ad (w.alloc (.cells #[Iq 0,.nilIface] 131));have d:vX a:=by rw[<-b];exact s.below ((af _ _).alloc (ae _) _)
 obtain⟨S,hS⟩:=ad w.heap.size;have g:a.heap[S]?=some (.cells #[Iq 0,.nilIface] 131 (0,0)):=by rw[<-b,<-hS];exact heap_alloc_new _ _
 have n:=(aD.1 g).1;have l:=N7 S p c (Iq 0) .nilIface a d.1 d.2 n (by simp[World.cell?,g]) (by simp[World.cell?,g]) (λj=>frozen_of_row _ _ _ _ _ g) k;have i:Hid (∀w',w'=((((((a.alloc (.cells #[Pq S] 133)).alloc (.cells #[.pointer (some (aj 18 133)),Pq a.heap.size,.int .u64 150] 184)).alloc (.cells #[.pointer (some (aj 18 133)),Pq a.heap.size,.int .u64 150] 184)).alloc (.cells #[Iq p,c] 131)).setCell (aj S 0) (Iq p)).setCell (aj S 1) c)->Bt w w'/\w'.cell? (aj S 0)=some (Iq p)):=by
  rintro w' rfl;have m:Bt w a:=by rw[<-b];exact(af _ _).alloc (ae _) _
  have v:=m.size;have r:=(((m.alloc v (.cells #[Pq S] 133)).alloc (by rw[au];omega) (.cells #[.pointer (some (aj 18 133)),Pq a.heap.size,.int .u64 150] 184)).alloc (by simp only[au];omega) (.cells #[.pointer (some (aj 18 133)),Pq a.heap.size,.int .u64 150] 184)).alloc (by simp only[au];omega) (.cells #[Iq p,c] 131);have h:w.heap.size<=S:=dg
  refine⟨(r.setCell h _).setCell h _,?_⟩;have t:(((((a.alloc (.cells #[Pq S] 133)).alloc (.cells #[.pointer (some (aj 18 133)),Pq a.heap.size,.int .u64 150] 184)).alloc (.cells #[.pointer (some (aj 18 133)),Pq a.heap.size,.int .u64 150] 184)).alloc (.cells #[Iq p,c] 131)).setCell (aj S 0) (Iq p)).cell? (aj S 0)=some (Iq p):=by refine sF (u:=Iq 0) _ _ _ ?_;rw[gw _ _ (aj S 0) (by simp only[au];omega),gw _ _ (aj S 0) (by simp only[au];omega),gw _ _ (aj S 0) (by simp only[au];omega),gw _ _ (aj S 0) n];simp[World.cell?,g]
  rw[c_ _ _ _ _ (λe=>rd)];exact t
 go_enter func24,ntmps24;go_wp2_with fail;refine ag l ?_;rintro e o ⟨rfl,f⟩;have q:=qH<|(i o f).1;have x:=(i o f).2;clear f i l b g d;go_wp2;go_ret;exact⟨rfl,q⟩
theorem yo(a:Addr)(w:World)(k:vX w):Cw 24 #[.iface 376 (.pointer (some a))] w λe w'=>e=Rw (Iq 0)/\Bt w w':=by
 obtain⟨c,d⟩:=ad (w.alloc (.cells #[Iq 0,.nilIface] 131));have g:Bt w c:=by rw[<-d];exact(af _ _).alloc (ae _) _
 have b:=k.below g;obtain⟨S,hS⟩:=ad w.heap.size;have h:=K7 S a c b.1 b.2;have i:Hid (∀w',w'=(((c.alloc (.cells #[Pq S] 133)).alloc (.cells #[.pointer (some (aj 18 133)),Pq c.heap.size,.int .u64 150] 184)).alloc (.cells #[.pointer (some (aj 18 133)),Pq c.heap.size,.int .u64 150] 184))->Bt w w'):=by rintro w' rfl;have l:=g.size;exact((g.alloc l _).alloc (by rw[au];omega) _).alloc (by simp only[au];omega) _
 go_enter func24,ntmps24;go_wp2_with fail;refine ag h ?_;rintro e m ⟨rfl,f⟩;have j:=qH<|i m f;clear f i h d b g;go_wp2;go_ret;exact⟨rfl,j⟩
theorem FH x E w(a:vX w):Cw 24 #[pv E x] w λe w'=>e=Rw (Iq (l8 x:Int))/\Bt w w':=by
 cases x with
 |none=>exact yo (E 1) w a
 |some q=>exact yn q.2 (bi (E q.1)) rfl w a
section
open Go.Stop
theorem PQ x E w:(Instr.typeAssert (pv E x) 20 83 true).run prog w=.ok (.tuple #[pv E x,.bool true]) w:=by
 cases x with
 |none=>exact run_typeAssert_hasB underlying83 ns _ _ w
 |some q=>exact run_typeAssert_hasB underlying83 ns _ _ w
theorem GW w:(Instr.typeAssert .nilIface 20 83 true).run prog w=.ok (.tuple #[.nilIface,.bool false]) w:=ns
theorem wM(a b B:Nat)(m k:Int)(x:Option (Nat×Nat))(E:Nat->Addr)(w:World)(hB:B<=a/\B<=b/\a≠b/\B<=w.heap.size)(A:w.heap[a]?=some (.cells #[Iq m] 26 (0,0)))(hp:w.heap[b]?=some (.cells #[Iq k] 3 (0,0)))(hG:vY w E)(y:gM w E)(z:vX w)(F:∀c p,x=some (c,p)->2<=c/\c<=7):
 CallsD prog 22 #[Pq a,Pq b] (.panicking [{v:=pv E x,recovered:=false}]) w λe I w'=>
  e=Rw (.tuple #[])/\I=.panicking [{v:=pv E x,recovered:=true}]/\w'.cell? (aj a 0)=some (Iq (iq x:Int))/\w'.cell? (aj b 0)=some (Iq (l8 x:Int))/\Below B w w':=by
 have r:=PQ x E;have n:=qH<|errno_any x E w hG y F;have q:=qH<|λw' G=>FH x E w' (z.below G);have g:=qH<|hB;have l:Hid (w.heap[a]?=some (.cells #[Iq m] 26 (0,0))/\w.heap[b]?=some (.cells #[Iq k] 3 (0,0))):=⟨A,hp⟩;obtain⟨v,D⟩:=ad (pv E x);rw[D]at r n q⊢;clear D hG y z F hB A hp;refine callsD_of_wpS func22 rfl λK J hu=>?_;apply wpS_seq;apply wpS_region;simp[wpOpsS,go_sem,recoverD,hu,ntmps22,Exit.thenS,r];have C:(#[Pq a,Pq b]++(((((((Array.replicate 12 undef).setIfInBounds 3 v).setIfInBounds 4 (Value.tuple #[v,Value.bool true])).setIfInBounds 2 (Value.tuple #[v,Value.bool true])).setIfInBounds 5 v).setIfInBounds 6 (Value.bool true)).setIfInBounds 0 v).setIfInBounds 1 (Value.bool true))=#[Pq a,Pq b,v,.bool true,.tuple #[v,.bool true],v,.tuple #[v,.bool true],v,.bool true,undef,undef,undef,undef,undef]:=by rfl
 rw[C];clear C;refine wpS_of_wp ?_;go_wp2_with fail;refine ag n ?_;rintro e L ⟨rfl,s⟩;have f:=qH<|s;clear s n;go_wp2_with fail;refine ag (q _ f) ?_;rintro e i ⟨rfl,t⟩;have j:=qH<|f.trans (t.mono f.size);clear t q f;have h:Hid (i.heap[a]?=some (.cells #[Iq m] 26 (0,0))/\i.heap[b]?=some (.cells #[Iq k] 3 (0,0))):=⟨(j.block _ (aD.1 l.1).1).trans l.1,(j.block _ (aD.1 l.2).1).trans l.2⟩;have d0:i.cell? (aj a 0)=some (Iq m):=by simp[World.cell?,h.1]
 have d1:i.cell? (aj b 0)=some (Iq k):=by simp[World.cell?,h.2]
 have f0:i.frozen? (aj a 0)=false:=frozen_of_row _ _ _ _ _ h.1;have f1:i.frozen? (aj b 0)=false:=frozen_of_row _ _ _ _ _ h.2;have H:¬a=b:=g.2.2.1;have o:Hid (((i.setCell (aj a 0) (Iq (iq x:Int))).setCell (aj b 0) (Iq (l8 x:Int))).cell? (aj a 0)=some (Iq (iq x:Int))/\((i.setCell (aj a 0) (Iq (iq x:Int))).setCell (aj b 0) (Iq (l8 x:Int))).cell? (aj b 0)=some (Iq (l8 x:Int))/\Below B w ((i.setCell (aj a 0) (Iq (iq x:Int))).setCell (aj b 0) (Iq (l8 x:Int)))):=by
  refine⟨?_,?_,?_⟩;·rw[c_ _ _ _ _ (λe=>rd)];exact sF _ _ _ d0
  ·refine sF (u:=Iq k) _ _ _ ?_;rw[c_ _ _ _ _ (λe=>rd)];exact d1
  ·exact((j.mono g.2.2.2).setCell g.1 _).setCell g.2.1 _
 go_wp2;exact⟨rfl,_,rfl,.tuple #[],by simp[results,Tryz.results22,go_sem],rfl,rfl,o.1,o.2.1,o.2.2⟩
theorem AQ(a b:Nat)(w:World):
 CallsD prog 22 #[Pq a,Pq b] .returning w λe g w'=>e=Rw (.tuple #[])/\g=.returning/\w'=w:=by
 have d:=GW;refine callsD_of_wpS func22 rfl λf h hu=>?_;apply wpS_seq;apply wpS_region;simp[wpOpsS,go_sem,recoverD,hu,ntmps22,Exit.thenS,d];have c:(#[Pq a,Pq b]++(((((((Array.replicate 12 undef).setIfInBounds 3 Value.nilIface).setIfInBounds 4 (Value.tuple #[Value.nilIface,Value.bool false])).setIfInBounds 2 (Value.tuple #[Value.nilIface,Value.bool false])).setIfInBounds 5 Value.nilIface).setIfInBounds 6 (Value.bool false)).setIfInBounds 0 Value.nilIface).setIfInBounds 1 (Value.bool false))=#[Pq a,Pq b,.nilIface,.bool false,.tuple #[.nilIface,.bool false],.nilIface,.tuple #[.nilIface,.bool false],.nilIface,.bool false,undef,undef,undef,undef,undef]:=by rfl
 rw[c];clear c;refine wpS_of_wp ?_;go_wp2;refine⟨rfl,.returning,?_,.tuple #[],by simp[results,Tryz.results22,go_sem],rfl,rfl,rfl⟩;cases f;simp_all
def Ng(w w':World)(e:Ending)(r:Except (Option (Nat×Nat)) (List Nd)):Prop:=Bt w w'/\match r with
 |.error x=>e=Rw (.tuple #[.slice none 0 0,Iq (iq x:Int),Iq (l8 x:Int)])
 |.ok L=>∃nv KV,e=Rw (.tuple #[nv,Iq 0,Iq 0])/\PN w' w.heap.size nv L KV
theorem sa(s:ByteArray)(E:Nat->Addr)(w:World)(hG:vY w E)(D:gM w E)(F:vX w):
 Cw 10 #[.string s] w λe w'=>Ng w w' e (bJ s):=by
 have M:∀(fn:Fn) (first m:Array Value) (w:World),(Instr.makeFunc fn first m).run prog w=.ok (.func fn first m) w:=λ_ _ _ _=>rfl;obtain⟨S,hS⟩:=ad w.heap.size;obtain⟨k,j⟩:=ad ((w.alloc (.cells #[Iq 0] 26)).alloc (.cells #[Iq 0] 3));have q:Hid (Bt w k):=by rw[<-j];exact((af _ _).alloc (ae _) _).alloc (by simp_all) _
 have RD:=qH<|readTree_any s E k (hG.cells q);have t:Hid (k.heap[S]?=some (.cells #[Iq 0] 26 (0,0))/\k.heap[S+1]?=some (.cells #[Iq 0] 3 (0,0))/\k.heap.size=S+2):=by
  rw[<-j,<-hS];refine⟨?_,?_,by simp only[au]⟩;·rw[cK _ _ _ (by simp_all)];exact heap_alloc_new _ _
  ·have:=heap_alloc_new (w.alloc (.cells #[Iq 0] 26)) (.cells #[Iq 0] 3);simp_all
 have i:Hid (∀w',Bt w w'->vY w' E/\gM w' E/\vX w'):=λw' v=>⟨hG.cells v,D.below v,F.below v⟩;have A:=qH<|hS;clear hG D F;go_enter_defers func10,ntmps10;go_wp2_with fail;clear j hS;refine ag RD ?_;rintro e a ⟨l,o⟩;have n:=t.2.2;have d:=qH<|q.trans (l.mono q.size);have b:Hid (a.heap[S]?=some (.cells #[Iq 0] 26 (0,0))/\a.heap[S+1]?=some (.cells #[Iq 0] 3 (0,0))):=⟨(l.block _ dg).trans t.1,(l.block _ dg).trans t.2.1⟩;have h:Hid (S<=a.heap.size/\k.heap.size=S+2):=⟨by have:=l.size;omega,n⟩;clear l n RD;cases hp:bJ s with
 |error x=>rw[hp]at o;subst o;have g:=qH<|hp;have y:=wM S (S+1) S 0 0 x E a ⟨ae _,dg,dg,h.1⟩ b.1 b.2 (i a d).1 (i a d).2.1 (i a d).2.2 (λc p e=>rx (by rw[g.out,e]));clear hp;refine leaves_cons (f:=22) (args:=#[Pq S,Pq (S+1)]) rn (by simp[go_sem]) ?_;refine y.mono ?_;rintro e P Q ⟨rfl,rfl,J,c1,C⟩;have r:=qH<|d.trans (by rw[A.out];exact C);clear C y;simp[Leaves,settle,results,Tryz.results10,go_sem,J,c1];refine⟨r,?_⟩;rw[g.out]
 |ok L=>
  rw[hp]at o;obtain⟨H,B,rfl,G⟩:=o;have g:=qH<|hp;have I:=qH<|G;clear G hp;have d0:a.cell? (aj S 0)=some (Iq 0):=by simp[World.cell?,b.1]
  have d1:a.cell? (aj (S+1) 0)=some (Iq 0):=by simp[World.cell?,b.2]
  have f0:a.frozen? (aj S 0)=false:=frozen_of_row _ _ _ _ _ b.1;have f1:a.frozen? (aj (S+1) 0)=false:=frozen_of_row _ _ _ _ _ b.2;have z:Hid (Bt w ((a.setCell (aj S 0) (Iq 0)).setCell (aj (S+1) 0) (Iq 0))/\PN ((a.setCell (aj S 0) (Iq 0)).setCell (aj (S+1) 0) (Iq 0)) w.heap.size H L B):=by
   have h1:w.heap.size<=S:=by rw[A.out];exact ae _
   have K:w.heap.size<=S+1:=dg;refine⟨(d.setCell h1 _).setCell K _,PN.base (I.up ((Up.set a (by rw[h.2];omega) _).trans (Up.set _ (by rw[h.2];omega) _))) (by rw[h.2];omega)⟩
  have N:((a.setCell (aj S 0) (Iq 0)).setCell (aj (S+1) 0) (Iq 0)).cell? (aj S 0)=some (Iq 0):=by rw[c_ _ _ _ _ (λe=>rd)];exact sF _ _ _ d0
  have O:((a.setCell (aj S 0) (Iq 0)).setCell (aj (S+1) 0) (Iq 0)).cell? (aj (S+1) 0)=some (Iq 0):=by refine sF (u:=Iq 0) _ _ _ ?_;rw[c_ _ _ _ _ (λe=>rd)];exact d1
  go_wp2;refine leaves_cons (f:=22) (args:=#[Pq S,Pq (S+1)]) rn (by simp[go_sem]) ?_;refine(AQ S (S+1) _).mono ?_;rintro e P Q ⟨rfl,rfl,rfl⟩;simp[Leaves,settle,results,Tryz.results10,go_sem,N,O];refine⟨z.1,?_⟩;rw[g.out];exact⟨H,B,rfl,z.2⟩
