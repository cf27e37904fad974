import Derived.Test.YtaanagpadfcmlaaGreatDoorQ06
import Derived.Test.YtaanagpadfcmlaaGreatDoorQ10
set_option linter.all false
set_option maxRecDepth 100000
set_option maxHeartbeats 16000000
namespace Go.Proofs.YtaanagpadfcmlaaGreatDoor
open Go.RowKit Go.Sort Go.Proofs.Tryz
theorem OZ:(prog.info? 3).map (λi=>(i.zero,i.size,i.bytes))=some (some (Iq 0),1,8):=ns
def dt(l:List Nat):List Int:=l.map fun(j:Nat)=>(j:Int)
theorem ey l:(dt l).length=l.length:=by simp[dt]
theorem Ja l m:dt (l++m)=dt l++dt m:=by simp[dt]
theorem m_{l}{x}(h:x∈dt l):∃j:Nat,x=j/\j∈l:=by obtain⟨j,a,rfl⟩:=jL.1 h;grind
theorem yb{l}(h:l.Pairwise (·<·)):(dt l).Pairwise (·<·):=by grind[dt]
theorem oq{l}{B}(h:B.Perm (dt l)):∃Q,B=dt Q/\Q.Perm l:=by
 refine⟨B.map Int.toNat,?_,?_⟩
 ·have:∀x∈B,((x.toNat:Nat):Int)=x:=λx a=>by grind[m_]
  unfold dt;rw[List.map_map];conv=>lhs;rw[<-List.map_id B]
  exact List.map_congr_left λx a=>(this x a).symm
 ·have:=h.map Int.toNat;refine this.trans ?_;unfold dt;rw[List.map_map];have:(Int.toNat∘fun(j:Nat)=>(j:Int))=id:=by funext j;simp
  simp_all
def dd(Wt:Nat->Int)(k:Nat):List Nat:=(List.range k).filter λj=>decide (0<Wt j)
theorem Fg{a}{k}(h:0<a k):dd a (k+1)=dd a k++[k]:=by unfold dd;rw[jM,List.filter_append];simp[h]
theorem Io{a}{k}(h:¬0<a k):dd a (k+1)=dd a k:=by unfold dd;rw[jM,List.filter_append];simp[h]
theorem Ff a k:(dd a k).Pairwise (·<·):=List.pairwise_lt_range.filter _
theorem od a k:(dd a k).length<=k:=by have:=List.length_filter_le (λj=>decide (0<a j)) (List.range k);rw[Ec]at this;exact this
theorem oe{a}{k j}(h:j∈dd a k):j<k/\0<a j:=by grind[dd]
theorem IA{w}{B n g c}{b}(h:w.ownsRow B 3 1 (Sq g n c) n (b.map (Value.int .i64))):aV w g 0 b:=by
 have s:b.length=n:=by have:=h.1;simpa using this
 rcases h.2 with⟨a,_⟩|⟨q,i,d,a,r,k,p,l,m,f⟩;·simp at a
 ·simp only[Am,Ed,Addr.mk.injEq,and_true,true_and]at a;obtain⟨rfl,rfl⟩:=a;refine⟨(aD.1 k).1,λj o=>⟨?_,frozen_of_row w g _ d 3 k⟩⟩;have:=h.cells (g:=g) rfl j (Iq (b[j]?.getD 0)) (by simp[o]);have e:((aj g 0):Addr).add j=(aj g (0+j)):=by unfold Addr.add;split<;>simp_all
  rwa[e]at this
def Px(B:Nat)(W:World)(v:Value)(Q:List Nat):Prop:=(Q=[]/\v=.slice none 0 0)\/(Q≠[]/\∃g cap,v=Sq g Q.length cap/\B<=g/\Q.length<=cap/\cap<=maxLen/\aV W g 0 (dt Q))
theorem Jg{w}{B}{v}{Q}(h:w.ownsRow B 3 1 v (dt Q).length ((dt Q).map (Value.int .i64)))(c:Q≠[]):∃g a,v=Sq g Q.length a/\B<=g/\Q.length<=a/\a<=maxLen/\aV w g 0 (dt Q):=by have d:=h;rcases h.2 with⟨rfl,e⟩|⟨g,a,b,rfl,i,j,h1,f,_⟩;all_goals grind[ey,IA]
def Pz(Mn Mx Wt:Nat->Int)(i k:Nat):Prop:=(Mx i-Mn i)*Wt k<=(Mx k-Mn k)*Wt i
theorem FE(n o off s:Nat)(l m a:Nat->Int)(w:World)(h:dS w o off n l m a)(hR:∀j,0<=m j-l j/\m j-l j<=1073741824/\0<=a j/\a j<=1073741824)(hn:n<=1073741824):
 Cw 236 #[.slice (some (aj o off)) n s] w λe w'=>∃v Q,e=Rw v/\Px w.heap.size w' v Q/\Q.Perm (dd a n)/\Q.Pairwise (Pz l m a)/\Bt w w':=by
 obtain⟨i0,hi,zi,zj,zk⟩:=info_parts OZ;have HW:=qH<|h;have HR:=qH<|hR;have zm:=h.1;clear h hR;go_enter func236,ntmps236;go_wp2;obtain⟨G,r⟩:=ad (w.alloc (.cells #[.slice (some (aj o off)) n s] 170));rw[r];have zh:G.heap.size=w.heap.size+1:=by rw[<-r];simp
 have B:Bt w G:=by rw[<-r];exact(af _ _).alloc (ae _) _
 have N:G.cell? (aj w.heap.size 0)=some (.slice (some (aj o off)) n s):=by rw[<-r,World.cell?_alloc_at _ _ _ _ rfl];rfl
 clear r;go_loopw[3,8] (λv i wr=>∃k:Nat,i=Iq k/\k<=n/\wr.ownsRow G.heap.size 3 1 v (dt (dd a k)).length ((dt (dd a k)).map (Value.int .i64))/\Bt G wr/\Hid (dd a k=[]->v=.slice none 0 0)) (λ_ i _=>n-(intOf i).toNat);case atStart=>exact⟨0,rfl,aR _,eO _ _ _ _,af _ _,λ_=>rfl⟩
 case round=>
  obtain⟨k,rfl,hk,b,c,t⟩:=hrel;by_cases zc:k<n
  ·have zn:(k:Int)<(n:Int):=dg
   have d:=(HW.below B).below c;have hc:=d.2 k zc;obtain⟨a1,J⟩:=ad (l k);obtain⟨a2,K⟩:=ad (m k);obtain⟨a3,A⟩:=ad (a k);rw[J,K,A]at hc;have hz:=d.1;have zl:=c.size;obtain⟨zo,zq,zr⟩:=hc;have H:=qH<|A;have zw:=od a k;have ze:=ey (dd a k);clear d J K A;by_cases z:0<a3
   ·have I:Hid (dd a (k+1)=dd a k++[k]):=Fg (by rw[H.out];exact z);go_wp2_with(at_builtin;refine wpList_append_own _ rfl _ _ 55 rfl G.heap.size 3 i0 (Iq 0) 1 8 underlying55 hi zi zj zk rfl (by decide) _ _ _ rfl ((b.alloc _).alloc _) _ 1 1 [Iq (k:Int)] rfl rfl ?c1 ?c2 ?c3 ?c4 ?c5 ?_);case c1=>intro j u P;have:=cell_one_new (wr.alloc (.cells #[Iq a1,Iq a2,Iq a3] 303)) (Iq (k:Int)) 3 j u P;simp_all
    case c2=>intro u hu;simp at hu;subst hu;rfl
    case c3=>unfold maxLen;omega
    case c4=>omega
    case c5=>simp;omega
    intro v' w1 C hg _;have f:=λq F=>(b.lt q F).1;have Z:=((c.alloc dg _).alloc (by simp;omega) _).grown hg (by simp;omega) (λq F=>rd);clear hg f b c;go_wp2;go_roundw;case rel=>refine⟨k+1,by go_num,dg,?_,Z,λe=>by rw[I.out]at e;simp at e⟩;rw[zh,I.out,Ja,aU,kQ,ze];exact C
    case measure=>simp[intOf];omega
   ·have I:Hid (dd a (k+1)=dd a k):=Io (by rw[H.out];exact z);go_wp2;go_roundw;case rel=>refine⟨k+1,by go_num,dg,?_,c.alloc dg _,λe=>t (by rw[I.out]at e;exact e)⟩;rw[I.out];exact b.alloc _
    case measure=>simp[intOf];omega
  ·have zv:¬(k:Int)<(n:Int):=dg
   obtain rfl:k=n:=dg;have L:=B.trans (c.mono dg);have d:=(HW.below B).below c;have zl:=c.size;by_cases O:dd a k=[];·rw[O]at b;have hv:=t O;subst hv;clear d b;go_wp2_with fail;refine(rU _ _).mono ?_;rintro e E ⟨rfl,rfl⟩;go_wp2;go_ret;exact⟨_,[],rfl,.inl ⟨rfl,rfl⟩,by rw[O],List.Pairwise.nil,L⟩
   ·obtain⟨g,T,rfl,zt,zu,za,f⟩:=Jg b O;have HS:Hid (Cw 250 #[Sq g (dd a k).length T,.func (.func 251) #[] #[Pq w.heap.size]] wr λe w'=>e=Rw (.tuple #[])/\ji wr w' g 0 (wa (λi=>m i.toNat-l i.toNat) (λi=>a i.toNat)) [] (dt (dd a k)) []):=by
     refine kG 251 #[Pq w.heap.size] (enters_of func251 ns rfl) (λi k=>iR ((m i.toNat-l i.toNat)*a k.toNat) ((m k.toNat-l k.toNat)*a i.toNat)) (dt (dd a k)) (wa (λi=>m i.toNat-l i.toNat) (λi=>a i.toNat)) (Je _ _ _ ?_) wr g 0 T ?_ (dt (dd a k)) wr (dd a k).length (dx _ _) f (λx S=>S) (yb (Ff a k)) (ey _) (by grind[od]);·intro x S;obtain⟨j,rfl,P⟩:=m_ S;have:=(oe P).2;grind
     ·refine EU k w.heap.size o off s g l m a wr ?_ d.2 (λj _=>HR j) _ ?_ dg dg dg dg d.1;·exact(c.cell (p:=(aj w.heap.size 0)) rd).trans N
      ·intro x S;obtain⟨j,rfl,P⟩:=m_ S;exact⟨j,rfl,(oe P).1⟩
    have y:∀E,ji wr E g 0 (wa (λi=>m i.toNat-l i.toNat) (λi=>a i.toNat)) [] (dt (dd a k)) []->∃Q,Q.length=(dd a k).length/\Px w.heap.size E (Sq g (dd a k).length T) Q/\Q.Perm (dd a k)/\Q.Pairwise (Pz l m a)/\Bt w E:=by
     rintro E ⟨⟨M,hp,D,zg⟩,zb⟩;obtain⟨Q,rfl,F⟩:=oq hp;have R:=F.length_eq;refine⟨Q,R,.inr ⟨λe=>O rd,g,T,by rw[R],dg,dg,za,by simpa using zg⟩,F,?_,?_⟩;·unfold dt at D;rw[Kr]at D;refine D.imp fun{i k} h=>?_;grind[wa,Pz]
     ·exact L.grown zb dg (λq F=>rd)
    have HF:=qH<|y;clear y d b f;go_wp2_with fail;refine HS.mono ?_;rintro e E ⟨rfl,hS⟩;obtain⟨Q,U,V,W,X,Y⟩:=HF E hS;clear hS U;go_wp2;go_ret;exact⟨_,Q,rfl,V,W,X,Y⟩
theorem jE{P}{l}{o}{a}{w}{K}{Q}{E}(N:o.guard=none)s x t(y:o.op=Op.call {callee:=Callee.builtin Builtin.append,args:=#[s,x],argTypes:=#[t,t]})d e i z size bytes(h1:P.underlying t=some (.slice e))(D:P.info? e=some i)(F:i.zero=some z)(G:i.size=size)(H:i.bytes=bytes)(I:z.cells.size=size)(J:0<size)v n f(R:a.eval s=v)(h:w.ownsRow d e size v n f)q m c b(T:a.eval x=.slice (some q) m c)(O:b.length=m*size)(M:∀j u,b[j]?=some u->w.cell? (q.add j)=some u)(r:∀u∈b,u.oneCell'=true)(A:n+m<=maxLen)(B:(n+m)*bytes<=140737488355328)(C:d<=w.heap.size)(L:∀p w',w'.ownsRow d e size p (n+m) (f++b)->w.grownBy w' v.ownBlock->K (a.put o.dst p) w'):
 if Region.wanted o (yielded l a.tmps)=true then Oper.wp P o a w K Q else E:=by
 have S:Region.wanted o (yielded l a.tmps)=true:=by simp[Region.wanted,N]
 rw[if_pos S];obtain⟨p,w',k,U,V,_⟩:=run_append_own (P:=P) w d t o.type e i z size bytes h1 D F G H I J v n f h q m c b O M r A B C;unfold Oper.wp;simp[execOp,y,resolve,invoke,builtin,R,T,k,Result.andThen];exact L p w' U V
