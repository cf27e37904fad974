import Derived.Test.YtehgehanbnkdiaaGreatDoorQ10
import Derived.Test.YtehgehanbnkdiaaGreatDoorQ02
import Derived.Lib.ItoaNum
import Derived.Lib.Join
set_option linter.all false
set_option maxRecDepth 100000
set_option maxHeartbeats 16000000
namespace Go.Proofs.YtehgehanbnkdiaaGreatDoor
open Go.RowKit Go.Sort
def OK(n base own:Int):Int:=if n=0 then own else base+n
def QA(z z2:Int):List Int:=if z<z2 then[1]else[]
def XE(x x2:Int):List Int:=if x2=x then[]else[OK x2 29 39]
def XD(y y2:Int):List Int:=if y2=y then[]else[OK y2 39 49]
def chg(x y z x2 y2 z2:Int):List Int:=QA z z2++(XE x x2++XD y y2)
def dc(n:Int):List UInt8:=Lib.decDigits n.toNat
def sq(ns:zzc):List UInt8:=[27,91]++(Lib.join (ns.map dc) [59]++[109])
def OL{n b o:Int}(h:0<=n/\n<=8)(a:0<=b/\b<=80)(c:0<=o/\o<100):0<=OK n b o/\OK n b o<100:=by unfold OK;split<;>omega
def kh(ns:zzc):Prop:=∀n∈ns,0<=n/\n<100
def kh.app{a b:zzc}(h:kh a)(k:kh b):kh (a++b):=λn d=>by rcases jA.1 d with c|c;exact h n c;exact k n c
def Mw(w:AT)(u:Fd)(T:TypeId)(j:Nat)(x:Fd)(h:[u][j]?=some x):(w.alloc (.cells #[u] T)).cell? (((aq w.heap.size 0):Addr).add j)=some x:=by
 rcases j with _|j;.simp at h;subst h;show(w.alloc (.cells #[u] T)).cell? (aq w.heap.size 0)=_;unfold World.cell?;rw[show(w.alloc (.cells #[u] T)).heap[w.heap.size]?=some (.cells #[u] T)from heap_alloc_new _ _];rfl
 .simp at h
structure ST(T:TypeId)(w:AT)(A C B:Nat)(Bd:AT)(v:Fd)(xs:zzc)(a0 a1 a2 c0 c1 c2:Int):Prop where
 own:Bd.ownsRow B 3 1 v xs.length (xs.map (Value.int .i64))
 ra:R3 T Bd A a0 a1 a2
 rc:R3 T Bd C c0 c1 c2
 bel:Bq w Bd
 hA:w.heap.size<=A/\A<B/\w.heap.size<=C/\C<B/\A≠C/\B<=Bd.heap.size
section
variable{T:TypeId} {w Bd:AT} {A C B:Nat} {v:Fd} {xs:zzc} {a0 a1 a2 c0 c1 c2:Int}
def ST.next(h:ST T w A C B Bd v xs a0 a1 a2 c0 c1 c2){o:Obj}{g:Fd}{w':AT}{x:Int}(i:w'.ownsRow B 3 1 g (xs.length+1) (xs.map (Value.int .i64)++[.int .i64 x]))(c:(Bd.alloc o).grownBy w' v.ownBlock):ST T w A C B w' g (xs++[x]) a0 a1 a2 c0 c1 c2:=by
 have a:∀k,v.ownBlock=some k->B<=k:=λk b=>(h.own.lt k b).1;obtain⟨j,d,l,f,m,n⟩:=h.hA;have keep:∀k,k<B->w'.heap[k]?=Bd.heap[k]?:=λk b=>by rw[c.block k (by rw[ai];omega) (λe=>by have:=a k e.symm;omega),bG _ _ _ dg]
 refine⟨by rw[aN,mi];exact i,(keep A d).trans h.ra,(keep C f).trans h.rc,?_,j,d,l,f,m,?_⟩;.exact(h.bel.alloc dg o).grown c (by rw[ai];omega) (λk b=>by have:=a k b;omega)
 .have:=c.size;rw[ai]at this;omega
def ST.bd(h:ST T w A C B Bd v xs a0 a1 a2 c0 c1 c2)(o:Obj):B<=(Bd.alloc o).heap.size:=by have:=h.hA;rw[ai];omega
def ST.zero(h:ST T w A C B Bd v xs a0 a1 a2 c0 c1 c2):ST T w A C B (((Bd.setCell (aq A 0) (.int .i64 0)).setCell (aq A 1) (.int .i64 0)).setCell (aq A 2) (.int .i64 0)) v xs 0 0 0 c0 c1 c2:=by obtain⟨a,b,d,f,c,g⟩:=h.hA;refine⟨ownsRow_setCell_below (ownsRow_setCell_below (ownsRow_setCell_below h.own b _) b _) b _,h.ra.set 0 0 0,h.rc.others (λe=>c e.symm) _ _ _,?_,a,b,d,f,c,by simpa[World.setCell]using g⟩;exact((h.bel.setCell a _).setCell a _).setCell a _
end
def ye(n b o:Int)(w:AT)(h:0<=n/\n<=8)(c:0<=b/\b<=80):Calls Tryz.prog 299 #[.int .i64 n,.int .i64 b,.int .i64 o] w λe w'=>e=Rw (.int .i64 (OK n b o))/\w'=w:=by
 go_enter Tryz.func299,Tryz.ntmps299;by_cases a:n=0;.subst a;go_wp2;go_ret;exact⟨rfl,rfl⟩
 .go_wp2;go_ret;exact⟨by unfold OK;rw[if_neg a];rfl,rfl⟩
