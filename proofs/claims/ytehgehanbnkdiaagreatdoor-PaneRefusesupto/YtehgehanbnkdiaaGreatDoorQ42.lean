import Derived.Test.YtehgehanbnkdiaaGreatDoorQ32
import Derived.Test.YtehgehanbnkdiaaGreatDoorQ39
import Derived.Lib.SlKeysI
import Derived.Lib.SlMapFilter
import Derived.Shelf.Strconv.Atoi
import Derived.Lib.AtoiErrMem
import Derived.Laws.EntriesVeiled
import Derived.RegionDies
import Derived.Stop.Asserts
import Derived.LaidSub
import Derived.ShutString
import Derived.Test.YtehgehanbnkdiaaGreatDoorQ40
set_option linter.all false
set_option maxRecDepth 100000
set_option maxHeartbeats 16000000
namespace Go.Proofs.YtehgehanbnkdiaaGreatDoor
open Go.RowKit Go.Sort Go.Proofs.Tryz
def OM{k:Int}(h:eU k):keyOf prog 3 (Iq k)=some (.int .i64 k):=by have:=h.wf;simp[keyOf,underlying3,mapKey,this]
def qv{k:Int}(h:(Lit.int .i64 k).wf=true):eU k:=by
 have a:IntKind.i64.min=-9223372036854775808:=by decide
 have b:IntKind.i64.max=9223372036854775807:=by decide
 simp[Lit.wf,a,b]at h;exact h
def mG:Maps.Keyed prog 3:=Maps.int_keyed underlying3
def Qi(D:DataW Unit)(mv:Int->Int):Prop:=∀k,D.atKey (.int .i64 k) (.lit (.int .i64 0))=.lit (.int .i64 (mv k))
def Mp(W:AT)(r n:Nat)(mv:Int->Int):Prop:=∃D:DataW Unit,W.ownsMap prog 3 (plainElem prog 3) r n D/\Qi D mv
section
variable{W W':AT} {r n:Nat} {mv:Int->Int}
def Mp.new(w:AT):Mp (w.alloc (.map #[] 0)) w.heap.size 0 (λ_=>0):=
 ⟨.map [],World.ownsMap_made w _ _ _,λk=>rfl⟩
def Mp.kept{row:Option Nat}(h:Mp W r n mv)(d:W.grownBy W' row)(a:some r≠row):Mp W' r n mv:=by obtain⟨D,b,c⟩:=h;exact⟨D,b.kept d a,c⟩
def Mp.block(h:Mp W r n mv)(g:W'.heap[r]?=W.heap[r]?):Mp W' r n mv:=by obtain⟨D,⟨d,a,b,c,i,f⟩,e⟩:=h;exact⟨D,⟨d,a,g.trans b,c,i,f⟩,e⟩
def Mp.below{B:Nat}(h:Mp W r n mv)(a:Below B W W')(b:r<B):Mp W' r n mv:=h.block (a.block r b)
def Mp.lt(h:Mp W r n mv):r<W.heap.size:=by obtain⟨D,a,_⟩:=h;exact a.lt
def Mp.look(h:Mp W r n mv){k:Int}(f:eU k):eU (mv k)/\(Instr.lookup 75 (.map (some r)) (Iq k) false).run prog W=.ok (Iq (mv k)) W:=by obtain⟨D,b,d⟩:=h;obtain⟨c,a,g,i⟩:=b.lookup_int mG (t:=75) (e:=3) pt underlying3 (zeroValue3 W) (OM f);have e:=(d k).symm.trans g;injection e with e;injection e with _ e;subst e;exact⟨qv i,a⟩
def Mp.put(h:Mp W r n mv){k v:Int}(c:eU k)(l:eU v)(m:n<8000000000000):
 ∃W',(Instr.mapUpdate 75 (.map (some r)) (Iq k) (Iq v)).run prog W=.ok () W'/\Mp W' r (n+1) (λj=>if j=k then v else mv j)/\W.grownBy W' (some r):=by
 obtain⟨D,b,f⟩:=h;obtain⟨W',a,i,g⟩:=b.update mG (t:=75) (e:=3) pt (by unfold maxLen;omega) (OM c) (plainElem_int underlying3 l.wf);refine⟨W',a,⟨_,i,λj=>?_⟩,g⟩;by_cases e:j=k;.subst e;rw[Maps.atKey_put_same b.isMap (mG.key (OM c))];simp
 .have d:Lit.int .i64 j≠Lit.int .i64 k:=λq=>e (by injection q);rw[Maps.atKey_put_other d];simp only[e,if_false];exact f j
end
section
open Go.ChangeShapes Go.WideShapes Go.ChangeAt Go.Deep
def Ov:Tryz.prog.cellsOf 28=6:=pt
theorem Ga:Tryz.prog.cellsOf 3=1:=pt
theorem Ot:Tryz.prog.cellsOf 9=1:=pt
theorem Ou:Tryz.prog.cellsOf 26=1:=pt
section
variable{H:Type} {enc:TypeId×Fd->H} {w:AT} {base:Nat} {spare:Nat->Bool} {held:Bool}
def yB{v:Fd}{n:Nat}{y:DataW H×List MemPlace}(h:DataW.trod enc Tryz.prog w base spare held n 3 [v]=some y):∃x:Int,v=.int .i64 x/\eU x:=by obtain⟨x,e,_,a⟩:=C8 Tryz.underlying3 h;injection e with e;exact⟨x,e,qv a⟩
def Jh{v:Fd}{n:Nat}{y:DataW H×List MemPlace}(h:DataW.trod enc Tryz.prog w base spare held n 9 [v]=some y):∃s:BY,v=.string s:=by obtain⟨x,e,_⟩:=DataW.trod_string Tryz.underlying9 h;injection e with e;exact⟨x,e⟩
def Ly{v:Fd}{n:Nat}{y:DataW H×List MemPlace}(h:DataW.trod enc Tryz.prog w base spare held n 26 [v]=some y):∃(p:zze) (m:Nat) (d:zzc),v=.slice p d.length m/\oO w v d:=by
 rcases open_ints Tryz.underlying26 Tryz.underlying3 Ga h with⟨a,_⟩|⟨x,l,c,d,a,_,A,B,z,hd,e,u⟩;.injection a with a;subst a;exact⟨none,0,[],rfl,none,0,rfl,.inl rfl⟩
 .injection a with a;subst a;have t:l<=d.length:=by rw[z];split<;>omega
  have k:(d.take l).length=l:=by rw[cL];omega
  refine⟨some x,c,d.take l,by rw[k],some x,c,by rw[k],?_⟩;have q:∀i,i<(d.take l).length->w.cell? (x.add i)=some (.int .i64 ((d.take l)[i]?.getD 0)):=by intro i hi;rw[cL]at hi;rw[e i dg,qI,if_pos dg,sP]
  by_cases g:d.take l=[];.exact .inl g
  .have o:0<(d.take l).length:=iQ.2 g;obtain⟨b,off,rfl,f⟩:=ints_at (zs:=d.take l) (λi hi=>by rw[sP];exact q i hi) o;refine .inr ⟨b,off,rfl,nR w (aq b (off+0)) (f 0 o),λj s=>?_⟩;rw[<-List.getD_eq_getElem?_getD];exact f j s
def RO{e:List Fd}{n:Nat}{y:DataW H×List MemPlace}(d:e.length=6)(h:DataW.trod enc Tryz.prog w base spare held n 28 e=some y):
 ∃r:Nx,e=[.int .i64 r.kd,.int .i64 r.a,.int .i64 r.b,.string r.s,.string r.t,.slice r.p r.zs.length r.m]/\oO w (.slice r.p r.zs.length r.m) r.zs/\eU r.a/\eU r.b:=by
 obtain⟨E,k,G,u,_,f,c⟩:=DataW.trod_struct Tryz.underlying28 h;match E,f,e,d with
 |[N,O,P,Q,R,S],_,[I,v1,v2,J,K,L],_=>have g:=c 0 _ rfl;have i:=c 1 _ rfl;have j:=c 2 _ rfl;have l:=c 3 _ rfl;have o:=c 4 _ rfl;have q:=c 5 _ rfl;simp[Ga,Ot,Ou]at g i j l o q;obtain⟨z,rfl,M⟩:=yB g;obtain⟨A,rfl,v⟩:=yB i;obtain⟨B,rfl,x⟩:=yB j;obtain⟨C,rfl⟩:=Jh l;obtain⟨D,rfl⟩:=Jh o;obtain⟨p,m,F,rfl,hi⟩:=Ly q;exact⟨⟨z,A,B,C,D,p,m,F⟩,rfl,hi,v,x⟩
def ID{y:Nat}{p:zze}{d k:Nat}{x:DataW H×List MemPlace}(h:DataW.trod enc Tryz.prog w base spare held y 22 [.slice p d k]=some x):
 ∃op:Nat->Nx,Fj w (.slice p d k) d op/\S_ d op/\(x.1=.nil/\d=0\/∃e s,x.1=.slice e s/\e.length=d):=by
 rcases open_slice Tryz.underlying22 h with⟨o,J⟩|⟨g,l,X,m,n,D,V,o,Y,hl,hm,I,rfl,J⟩;.injection o with o;injection o with v z E;subst v z E;exact⟨λ_=>⟨0,0,0,⟨#[]⟩,⟨#[]⟩,none,0,[]⟩,⟨none,0,rfl,.inl rfl⟩,λi hi=>absurd hi dg,.inl ⟨by rw[J],rfl⟩⟩
 .injection o with o;injection o with v z E;subst v z E;have R:d<=m:=by rw[I];split<;>omega
  have each:∀i,i<m->∃r:Nx,w.cell? (g.add (i*6))=some (.int .i64 r.kd)/\w.cell? (g.add (i*6+1))=some (.int .i64 r.a)/\w.cell? (g.add (i*6+2))=some (.int .i64 r.b)/\w.cell? (g.add (i*6+3))=some (.string r.s)/\w.cell? (g.add (i*6+4))=some (.string r.t)/\w.cell? (g.add (i*6+5))=some (.slice r.p r.zs.length r.m)/\oO w (.slice r.p r.zs.length r.m) r.zs/\eU r.a/\eU r.b:=by intro i hi;obtain⟨Q,v,z⟩:=J i hi;rw[Ov]at v;obtain⟨_,A,c⟩:=World.cells?_some v;obtain⟨r,S,G,F⟩:=RO A z;subst S;have K:=c 0 dg;have L:=c 1 dg;have M:=c 2 dg;have N:=c 3 dg;have O:=c 4 dg;have P:=c 5 dg;rw[add_add]at K L M N O P;exact⟨r,by simpa using K,by simpa using L,by simpa using M,by simpa using N,by simpa using O,by simpa using P,G,F⟩
  have U:Inhabited Nx:=⟨⟨0,0,0,⟨#[]⟩,⟨#[]⟩,none,0,[]⟩⟩;obtain⟨q,C⟩:=choose_lt each;refine⟨q,⟨some g,k,rfl,?_⟩,λi hi=>(C i dg).2.2.2.2.2.2.2,.inr ⟨_,_,rfl,At⟩⟩;by_cases T:d=0;.exact .inl T
  .right;obtain⟨b,off,B⟩:=g;have u:B=none:=by simpa[Addr.add]using World.cell?_spot (C 0 dg).1
   subst u;refine⟨b,off,rfl,nR w ⟨b,off+0*6,none⟩ (by rw[<-Go.WideShapes.add_plain];exact(C 0 dg).1),λj Z=>?_⟩;have f:=C j dg;have:=(⟨f.1,f.2.1,f.2.2.1,f.2.2.2.1,f.2.2.2.2.1,f.2.2.2.2.2.1,f.2.2.2.2.2.2.1⟩:_/\_/\_/\_/\_/\_/\_);rw[sS,sS,sS,sS,sS,sS]at this;simpa only[Nat.add_assoc]using this
end
