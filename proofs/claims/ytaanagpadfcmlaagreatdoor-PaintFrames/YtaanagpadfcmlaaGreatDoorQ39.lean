import Derived.Test.YtaanagpadfcmlaaGreatDoorQ38
import Derived.Test.YtaanagpadfcmlaaGreatDoorQ32
import Derived.Deep.Slices
import Derived.ShutString
import Derived.Test.YtaanagpadfcmlaaGreatDoorQ37
set_option linter.all false
set_option maxRecDepth 100000
set_option maxHeartbeats 16000000
namespace Go.Proofs.YtaanagpadfcmlaaGreatDoor
open Go.RowKit Go.Proofs.Tryz
section
open Go.ChangeShapes Go.WideShapes Go.ChangeAt Go.Deep
theorem La{W:World}(B:laidMetH prog ft W):bN W:=by
 obtain⟨l,hh⟩:=laidMetH_iff.1 B;obtain⟨N,u,E,t⟩:=l;obtain⟨I,O,h,b,p,m,o,g,hd,_⟩:=mW u (pD 4) (iL 4 ns ns);have a:prog.globalNamed (pD 4).1=some 10:=ns;obtain rfl:=kK (a.symm.trans m);obtain rfl:=kK (Be.symm.trans o);have j:DataW.trod (λ_=>()) prog W 0 (λ_=>true) false b 332 h.toList=some ((Rows.laid_pane_glyph_spans:DataW Unit),p):=hd;clear hd;have hd:=j;rw[LQ]at hd;obtain⟨z,n,_,G,_,u,C⟩:=DataW.trod_array underlying332 hd;have q:z.map (·.1)=fX.map λs=>(.agg [.lit (.int .i64 s.1),.lit (.int .i64 s.2.1),.lit (.int .i64 s.2.2)]:DataW Unit):=by have:=congrArg Prod.fst G;simp only[DataW.agg.injEq]at this;exact this.symm
 intro i hi;have f:=C i hi;rw[EI]at f;have F:fX[i]?=some (cQ i):=by unfold cQ;have:i<fX.length:=hi;rw[Ee,dI this];rfl
 have e:(z.map (·.1))[i]?=some (.agg [.lit (.int .i64 (cQ i).1),.lit (.int .i64 (cQ i).2.1),.lit (.int .i64 (cQ i).2.2)]:DataW Unit):=by rw[q,List.getElem?_map,F];rfl
 rw[List.getElem?_map]at e;obtain⟨y,hy,r⟩:=nJ.1 e;rw[hy]at f;obtain⟨d,M⟩:=y;simp only at r;subst r;obtain⟨J,K,L⟩:=Cr f;have A:∀k v,k<3->((h.toList.drop (i*3)).take 3)[k]?=some v->h[i*3+k]?=some v:=by intro k v D x;rw[uz,if_pos D,Ao,Ks]at x;exact x
 have c:=λk=>Ay a g k;grind
theorem Hc:prog.bytesOf 34=16:=ns
theorem Hj:prog.cellsOf 34=2:=ns
theorem Ew:prog.cellsOf 3=1:=ns
section
variable{H:Type} {enc:TypeId×Value->H} {w:World} {base:Nat} {spare:Nat->Bool} {held:Bool}
theorem DA{v}{n}{y}(h:DataW.trod enc prog w base spare held n 3 [v]=some y):∃x,v=Iq x:=by obtain⟨x,e,_⟩:=Eg underlying3 h;grind
theorem FD{o:Nat}{p:Option Addr}{c y:Nat}{x:DataW H×List MemPlace}(h:DataW.trod enc prog w base spare held o 22 [.slice p c y]=some x):
 ∃a b:Nat->Int,jB w p c a b/\(x.1=.nil/\c=0\/∃e s,x.1=.slice e s/\e.length=c):=by
 rcases open_slice underlying22 h with⟨f,E⟩|⟨v,l,R,m,n,D,Q,f,S,V,W,B,rfl,E⟩;·injection f with f;injection f with h1 r A;subst h1 r A;exact⟨λ_=>0,λ_=>0,.inl rfl,.inl ⟨by rw[E],rfl⟩⟩
 ·injection f with f;injection f with h1 r A;subst h1 r A;have M:c<=m:=by rw[B];split<;>omega
  have each:∀i,i<m->∃q:Int×Int,w.cell? (v.add (i*2))=some (Iq q.1)/\w.cell? (v.add (i*2+1))=some (Iq q.2):=by
   intro i hi;obtain⟨z,h1,r⟩:=E i hi;rw[Hj]at h1;obtain⟨_,t,d⟩:=World.cells?_some h1;obtain⟨P,k,U,N,_,F,J⟩:=DataW.trod_struct underlying34 r;match P,F,z,t with
   |[y0,y1],_,[X,v1],_=>have G:=J 0 _ rfl;have I:=J 1 _ rfl;simp[Ew]at G I;obtain⟨Y,rfl⟩:=DA G;obtain⟨Z,rfl⟩:=DA I;have K:=d 0 dg;have L:=d 1 dg;rw[add_add]at K L;simp_all
  obtain⟨q,C⟩:=choose_lt each;refine⟨λi=>(q i).1,λi=>(q i).2,?_,.inr ⟨_,_,rfl,rn⟩⟩;by_cases O:c=0;·exact .inl O
  ·right;obtain⟨b,off,u⟩:=v;have g:u=none:=by simpa[Addr.add]using World.cell?_spot (C 0 dg).1
   subst g;refine⟨b,off,rfl,jK w ⟨b,off+0*2,none⟩ (by rw[<-Go.WideShapes.add_plain];exact(C 0 dg).1),λj T=>?_⟩;have:=C j dg;rw[Go.WideShapes.add_plain,Go.WideShapes.add_plain]at this;omega
end
