import Derived.Test.YtadhgppeafpdgaaGreatDoorQ02
import Derived.Deep.OwnRows
import Derived.Deep.RegionWith
import Derived.Deep.CutRange
import Derived.Shelf.Abstract
import Derived.Shelf.SlSortCmp.QuietGrown
import Derived.Test.YtadhgppeafpdgaaGreatDoorQ07
set_option linter.all false
set_option maxRecDepth 100000
set_option maxHeartbeats 16000000
namespace Go.Proofs.YtadhgppeafpdgaaGreatDoor
open Go.RowKit Go.Sort Go.Proofs.Tryz
def cl(x:Int):Int:=if x<0 then 0 else if 100000<x then 100000 else x
theorem gq  x  :0<=cl x/\cl x<=100000:=by grind[cl]
theorem shClamped_any(x:Int)(w:World):
 Cw 231 #[Iq x] w fun e w'=>e=Rw (Iq (cl x))/\w'=w:=by
 obtain⟨y,hy⟩:=af (cl x);rw[hy];unfold cl at hy;by_cases h1:x<0
 ·rw[if_pos h1]at hy;subst hy;have h0:x<=0:=by omega
  go_enter func231,ntmps231;go_wp2;go_ret;simp_all
 ·rw[if_neg h1]at hy;have h0:0<=x:=by omega
  by_cases h2:100000<x;·rw[if_pos h2]at hy;subst hy;go_enter func231,ntmps231;go_wp2;go_ret;simp_all
  ·rw[if_neg h2]at hy;subst hy;have h3:x<=100000:=by omega
   go_enter func231,ntmps231;go_wp2;go_ret;simp_all
def ib(W:World)(blk off n:Nat)(a b c:Nat->Int):Prop:=blk<W.heap.size/\∀j,j<n->W.cell? (aq blk (off+j*3))=some (Iq (a j))/\W.cell? (aq blk (off+j*3+1))=some (Iq (b j))/\W.cell? (aq blk (off+j*3+2))=some (Iq (c j))
theorem ib.below{A B}{blk off n}{a b c}(h:ib A blk off n a b c)(hb:Bt A B):ib B blk off n a b c:=
 ⟨zz007 h.1 hb.size,fun j hj=>⟨(hb.cell (p:=(aq blk _)) h.1).trans (h.2 j hj).1,(hb.cell (p:=(aq blk _)) h.1).trans (h.2 j hj).2.1,(hb.cell (p:=(aq blk _)) h.1).trans (h.2 j hj).2.2⟩⟩
theorem ib.grown{A B}{blk off n}{a b c}{r}(h:ib A blk off n a b c)(hb:A.grownBy B (some r))(hn:blk≠r):ib B blk off n a b c:=
 ⟨zz007 h.1 hb.size,fun j hj=>⟨hb.cell (h.2 j hj).1 (by grind),hb.cell (h.2 j hj).2.1 (by grind),hb.cell (h.2 j hj).2.2 (by grind)⟩⟩
def ic(mn mx:Int):Int:=if mx<0 then 100000 else if cl mx<cl mn then cl mn else cl mx
theorem mq  a b  :cl a<=ic a b/\ic a b<=100000:=by have:=gq a;have:=gq b;grind[ic]
theorem O6:(prog.info? 325).map (fun i=>(i.zero,i.size,i.bytes))=some (some (.agg #[Iq 0,Iq 0,Iq 0]),3,24):=by kernel_rfl
theorem QJ:prog.underlying 262=some (.slice 325):=by kernel_rfl
theorem xX(n:Nat)(hn:n<=1099511627776)  w  :(Instr.makeSlice 262 (Iq (n:Int)) (Iq (n:Int))).run prog w=.ok (Sq w.heap.size n n) (w.alloc (.cells (madeCells #[Iq 0,Iq 0,Iq 0] (n*3)) 325)):=by obtain⟨i,hi,hzz⟩:=kP.1 O6;simp only[Prod.mk.injEq]at hzz;obtain⟨hz,hs,hb⟩:=hzz;have hr:=run_make (P:=prog) w 262 325 i _ QJ hi hz .i64 .i64 n n (by omega) (lV _) (by grind) (by omega);simp only[lW,hs]at hr;exact hr
def yG(w wr:World)(B n k:Nat)(a b c:Nat->Int):Prop:=Bt w wr/\B<wr.heap.size/\(∀j,wr.frozen? (aq B j)=false)/\(∀j,j<n*3->∃v,wr.cell? (aq B j)=some v)/\∀j,j<k->wr.cell? (aq B (0+j*3))=some (Iq (cl (a j)))/\wr.cell? (aq B (0+j*3+1))=some (Iq (ic (a j) (b j)))/\wr.cell? (aq B (0+j*3+2))=some (Iq (cl (c j)))
theorem zZ(W:World)  B i j   v  (h:∃u,W.cell? (aq B i)=some u):(W.setCell (aq B i) v).cell? (aq B j)=if j=i then some v else W.cell? (aq B j):=by
 obtain⟨u,hu⟩:=h;by_cases e:j=i;·subst e;rw[if_pos rfl,rO _ _ _ (by grind)]
 ·rw[if_neg e,dy _ _ _ _ (fun h=>e (by grind))]
theorem P_{w wr}{n k}{a b c}(h:yG w wr w.heap.size n k a b c)(hk:k<n)  x y z  (hx:x=cl (a k)) (hy:y=ic (a k) (b k)) (hz:z=cl (c k)):
 yG w (((wr.setCell (aq w.heap.size (k*3)) (Iq x)).setCell (aq w.heap.size (k*3+1)) (Iq y)).setCell (aq w.heap.size (k*3+2)) (Iq z)) w.heap.size n (k+1) a b c:=by
 obtain⟨h1,h2,h3,h4,h5⟩:=h;subst hx hy hz;have key:∀j,(((wr.setCell (aq w.heap.size (k*3)) (Iq (cl (a k)))).setCell (aq w.heap.size (k*3+1)) (Iq (ic (a k) (b k)))).setCell (aq w.heap.size (k*3+2)) (Iq (cl (c k)))).cell? (aq w.heap.size j)
  =if j=k*3+2 then some (Iq (cl (c k)))else if j=k*3+1 then some (Iq (ic (a k) (b k)))else if j=k*3 then some (Iq (cl (a k)))else wr.cell? (aq w.heap.size j):=by intro j;obtain⟨v0,e0⟩:=h4 (k*3) (by omega);obtain⟨v1,e1⟩:=h4 (k*3+1) (by omega);obtain⟨v2,e2⟩:=h4 (k*3+2) (by omega);have s0:=fun j=>(zZ wr w.heap.size (k*3) j (Iq (cl (a k))) ⟨v0,e0⟩);have s1:=fun j=>(zZ (wr.setCell (aq w.heap.size (k*3)) (Iq (cl (a k)))) w.heap.size (k*3+1) j (Iq (ic (a k) (b k))) ⟨v1,by grind⟩);rw[zZ _ w.heap.size (k*3+2) j _ ⟨v2,by grind⟩,s1,s0]
 refine⟨?_,?_,?_,?_,?_⟩;·exact((h1.setCell (ae _) _).setCell (ae _) _).setCell (ae _) _
 ·simp;omega
 ·simp_all
 all_goals grind
theorem FS{w wr}{n k}{a b c}(h:yG w wr w.heap.size n k a b c)  o  :yG w (wr.alloc o) w.heap.size n k a b c:=by obtain⟨h1,h2,h3,h4,h5⟩:=h;have hA:∀j,(wr.alloc o).cell? (aq w.heap.size j)=wr.cell? (aq w.heap.size j):=fun j=>World.cell?_alloc_past o _ _ h2;refine⟨h1.alloc (by omega) o,by simp;omega,fun j=>(World.frozen?_alloc_past o _ _ h2).trans (h3 j),fun j hj=>by rw[hA];exact h4 j hj,fun j hj=>by rw[hA,hA,hA];exact h5 j hj⟩
theorem qK{w wr}{n k}{a b c}(h:yG w wr w.heap.size n k a b c)(hk:k<n)  o   x y z  (hx:x=cl (a k)) (hy:y=ic (a k) (b k)) (hz:z=cl (c k)):
 yG w ((((wr.setCell (aq w.heap.size (k*3)) (Iq x)).setCell (aq w.heap.size (k*3+1)) (Iq y)).setCell (aq w.heap.size (k*3+2)) (Iq z)).alloc o) w.heap.size n (k+1) a b c:=
 FS (P_ h hk x y z hx hy hz) o
theorem FT  w   n   a b c   cs   t  (hc:cs.size=n*3):yG w (w.alloc (.cells cs t)) w.heap.size n 0 a b c:=by refine⟨(ag _ _).alloc (ae _) _,by simp,fun j=>World.frozen?_alloc_at _ _ _ _ rfl,fun j hj=>⟨cs[j]'(by omega),?_⟩,fun j hj=>by omega⟩;simp_all
theorem clampedWants_any(n:Nat)(blk off cap:Nat)(a b c:Nat->Int)(w:World)(h:ib w blk off n a b c)(hn:n<=1099511627776):
 Cw 230 #[.slice (some (aq blk off)) n cap] w fun e w'=>e=Rw (Sq w.heap.size n n)/\ib w' w.heap.size 0 n (fun j=>cl (a j)) (fun j=>ic (a j) (b j)) (fun j=>cl (c j))/\Bt w w':=by
 have HR:=qH<|h;have zr:=h.1;clear h;have mw:=xX n hn;go_enter func230,ntmps230;go_wp2;go_loopw[13] (fun i wr=>∃k:Nat,i=Iq k/\k<=n/\Hid (yG w wr w.heap.size n k a b c)) (fun i _=>n-(intOf i).toNat);case atStart=>exact⟨0,rfl,bm _,FT w n a b c _ _ (size_madeCells _ _)⟩
 case round=>
  obtain⟨k,rfl,hk,HP⟩:=hrel;have CC:=qH<|shClamped_any;have hP:=HP.out;by_cases hlt:k<n
  ·have aR:(k:Int)<(n:Int):=by omega
   have hc:=HR.2 k hlt;obtain⟨a1,ha1⟩:=af (a k);obtain⟨a2,ha2⟩:=af (b k);obtain⟨a3,ha3⟩:=af (c k);rw[ha1,ha2,ha3]at hc;have hz:=zz007 zr hP.1.size;have ca1:=(hP.1.cell (p:=(aq blk _)) zr).trans hc.1;have ca2:=(hP.1.cell (p:=(aq blk _)) zr).trans hc.2.1;have ca3:=(hP.1.cell (p:=(aq blk _)) zr).trans hc.2.2;have fB:=hP.2.1;have Yr:=hP.2.2.1;obtain⟨v0,e0⟩:=hP.2.2.2.1 (k*3) (by omega);obtain⟨v1,e1⟩:=hP.2.2.2.1 (k*3+1) (by omega);obtain⟨v2,e2⟩:=hP.2.2.2.1 (k*3+2) (by omega);have Sl:=qH<|ha1;have Xf:=qH<|ha2;have Jl:=qH<|ha3;clear hc hP ha1 ha2 ha3;by_cases kV:a2<0
   ·have zbW:¬0<=a2:=by omega
    have HN:=qH<|
     fun o=>qK HP hlt o _ _ _ (by rw[Sl.out]) (by unfold ic;rw[Xf.out,if_pos kV]) (by rw[Jl.out]);go_wp2_with(go_at_call 231;refine(CC _ _).mono ?_;rintro e w5 ⟨rfl,rfl⟩);go_roundw;case rel=>exact⟨k+1,by go_num,by omega,HN _⟩
    case measure=>simp[intOf];omega
   ·have zbW:0<=a2:=by omega
    by_cases BU:cl a2<cl a1;focus
     have zgY:cl a2<=cl a1:=by omega
     have HN:=qH<|
      fun o=>qK HP hlt o _ _ _ (by rw[Sl.out]) (by unfold ic;rw[Xf.out,Sl.out,if_neg kV,if_pos BU]) (by rw[Jl.out])
    rotate_left;focus
     have zgY:cl a1<=cl a2:=by omega
     have HN:Hid (∀o,yG w ((((wr.setCell (aq w.heap.size (k*3)) (Iq (cl a1))).setCell (aq w.heap.size (k*3+1)) (Iq (if cl a1<cl a2 then cl a2 else cl a1))).setCell (aq w.heap.size (k*3+2)) (Iq (cl a3))).alloc o) w.heap.size n (k+1) a b c):=
      fun o=>qK HP hlt o _ _ _ (by rw[Sl.out]) (by unfold ic;rw[Xf.out,Sl.out,if_neg kV,if_neg BU];omega) (by rw[Jl.out])
    rotate_left;all_goals
     go_wp2_with(go_at_call 231;refine(CC _ _).mono ?_;rintro e w5 ⟨rfl,rfl⟩);go_roundw;case rel=>exact⟨k+1,by go_num,by omega,HN _⟩
     case measure=>simp[intOf];omega
  ·have hge:¬(k:Int)<(n:Int):=by omega
   obtain rfl:k=n:=by omega
   clear hP;go_wp2;go_ret;exact⟨rfl,⟨HP.2.1,HP.2.2.2.2⟩,HP.1⟩
theorem Zm:(prog.info? 3).map (fun i=>(i.zero,i.size,i.bytes))=some (some (Iq 0),1,8):=by kernel_rfl
def dd(l:List Nat):List Int:=l.map fun(j:Nat)=>(j:Int)
theorem ez  l  :(dd l).length=l.length:=by simp[dd]
theorem PG  l m  :dd (l++m)=dd l++dd m:=by simp[dd]
theorem oY{l}{x}(h:x∈dd l):∃j:Nat,x=j/\j∈l:=by obtain⟨j,hj,rfl⟩:=lZ.1 h;grind
theorem C6{l}(h:l.Pairwise (·<·)):(dd l).Pairwise (·<·):=by grind[dd]
theorem qD{l}{B}(h:B.Perm (dd l)):∃Q,B=dd Q/\Q.Perm l:=by
 refine⟨B.map Int.toNat,?_,?_⟩
 ·have:∀x∈B,((x.toNat:Nat):Int)=x:=fun x hx=>by grind[oY]
  unfold dd;rw[List.map_map];conv=>lhs;rw[<-List.map_id B]
  exact List.map_congr_left fun x hx=>(this x hx).symm
 ·have:=h.map Int.toNat;refine this.trans ?_;unfold dd;rw[List.map_map];have:(Int.toNat∘fun(j:Nat)=>(j:Int))=id:=by funext j;simp
  simp_all
def cO(Wt:Nat->Int)(k:Nat):List Nat:=(List.range k).filter fun j=>decide (0<Wt j)
theorem Kv{Wt}{k}(h:0<Wt k):cO Wt (k+1)=cO Wt k++[k]:=by unfold cO;rw[yl,List.filter_append];simp[h]
theorem Ow{Wt}{k}(h:¬0<Wt k):cO Wt (k+1)=cO Wt k:=by unfold cO;rw[yl,List.filter_append];simp[h]
theorem Ku  Wt   k  :(cO Wt k).Pairwise (·<·):=List.pairwise_lt_range.filter _
theorem qf  Wt   k  :(cO Wt k).length<=k:=by have:=List.length_filter_le (fun j=>decide (0<Wt j)) (List.range k);rw[Q8]at this;exact this
theorem qg{Wt}{k j}(h:j∈cO Wt k):j<k/\0<Wt j:=by grind[cO]
theorem O9{w}{B n g cap}{zs}(h:w.ownsRow B 3 1 (Sq g n cap) n (zs.map (Value.int .i64))):aN w g 0 zs:=by
 have hl:zs.length=n:=by have:=h.1;simpa using this
 rcases h.2 with⟨h',_⟩|⟨g',cH,cM,h',hb,hg,hnc,Tt,iD,Wz⟩;·simp at h'
 ·simp only[D6,I5,Addr.mk.injEq,and_true,true_and]at h';obtain⟨rfl,rfl⟩:=h';refine⟨(az.1 hg).1,fun j hj=>⟨?_,frozen_of_row w g _ cM 3 hg⟩⟩;have:=h.cells (g:=g) rfl j (Iq (zs[j]?.getD 0)) (by simp[hj]);have e:((aq g 0):Addr).add j=(aq g (0+j)):=by unfold Addr.add;split<;>simp_all
  rwa[e]at this
def zax(B:Nat)(W:World)(v:Value)(Q:List Nat):Prop:=(Q=[]/\v=.slice none 0 0)\/(Q≠[]/\∃g cap,v=Sq g Q.length cap/\B<=g/\Q.length<=cap/\cap<=maxLen/\aN W g 0 (dd Q))
theorem PX{w}{B}{v}{Q}(h:w.ownsRow B 3 1 v (dd Q).length ((dd Q).map (Value.int .i64)))(bj:Q≠[]):∃g cap,v=Sq g Q.length cap/\B<=g/\Q.length<=cap/\cap<=maxLen/\aN w g 0 (dd Q):=by have h0:=h;rcases h.2 with⟨rfl,e⟩|⟨g,cap,cM,rfl,hb,hg,h1,h2,_⟩;all_goals grind[ez,O9]
def RFl(Mn Mx Wt:Nat->Int)(i k:Nat):Prop:=(Mx i-Mn i)*Wt k<=(Mx k-Mn k)*Wt i
theorem K5(n blk off cap:Nat)(Mn Mx Wt:Nat->Int)(w:World)(h:ib w blk off n Mn Mx Wt)(hR:∀j,0<=Mx j-Mn j/\Mx j-Mn j<=1073741824/\0<=Wt j/\Wt j<=1073741824)(hn:n<=1073741824):
 Cw 254 #[.slice (some (aq blk off)) n cap] w fun e w'=>∃v Q,e=Rw v/\zax w.heap.size w' v Q/\Q.Perm (cO Wt n)/\Q.Pairwise (RFl Mn Mx Wt)/\Bt w w':=by
 obtain⟨i0,hi,dJ,fy,fB⟩:=info_parts Zm;have HW:=qH<|h;have HR:=qH<|hR;have zr:=h.1;clear h hR;go_enter func254,ntmps254;go_wp2;obtain⟨w0,hw0⟩:=af (w.alloc (.cells #[.slice (some (aq blk off)) n cap] 262));rw[hw0];have _w:w0.heap.size=w.heap.size+1:=by rw[<-hw0];simp
 have wC:Bt w w0:=by rw[<-hw0];exact(ag _ _).alloc (ae _) _
 have zgs:w0.cell? (aq w.heap.size 0)=some (.slice (some (aq blk off)) n cap):=by rw[<-hw0,World.cell?_alloc_at _ _ _ _ rfl];rfl
 clear hw0;go_loopw[3,8] (fun v i wr=>∃k:Nat,i=Iq k/\k<=n/\wr.ownsRow w0.heap.size 3 1 v (dd (cO Wt k)).length ((dd (cO Wt k)).map (Value.int .i64))/\Bt w0 wr/\Hid (cO Wt k=[]->v=.slice none 0 0)) (fun _ i _=>n-(intOf i).toNat);case atStart=>exact⟨0,rfl,bm _,jb _ _ _ _,ag _ _,fun _=>rfl⟩
 case round=>
  obtain⟨k,rfl,hk,bC,b_,_'⟩:=hrel;by_cases hlt:k<n
  ·have aR:(k:Int)<(n:Int):=by omega
   have iO:=(HW.below wC).below b_;have hc:=iO.2 k hlt;obtain⟨a1,ha1⟩:=af (Mn k);obtain⟨a2,ha2⟩:=af (Mx k);obtain⟨a3,ha3⟩:=af (Wt k);rw[ha1,ha2,ha3]at hc;have hz:=iO.1;have hzr:=b_.size;obtain⟨ca1,ca2,ca3⟩:=hc;have Jl:=qH<|ha3;have cZ:=qf Wt k;have TF:=ez (cO Wt k);clear iO ha1 ha2 ha3;by_cases fW:0<a3
   ·have HH:Hid (cO Wt (k+1)=cO Wt k++[k]):=Kv (by rw[Jl.out];exact fW);go_wp2_with(at_builtin;refine wpList_append_own _ rfl _ _ 34 rfl w0.heap.size 3 i0 (Iq 0) 1 8 underlying34 hi dJ fy fB rfl (by decide) _ _ _ rfl ((bC.alloc _).alloc _) _ 1 1 [Iq (k:Int)] rfl rfl ?c1 ?c2 ?c3 ?c4 ?c5 ?_);case c1=>intro j u hj;have:=cell_one_new (wr.alloc (.cells #[Iq a1,Iq a2,Iq a3] 325)) (Iq (k:Int)) 3 j u hj;simp_all
    case c2=>intro u hu;simp at hu;subst hu;rfl
    case c3=>unfold maxLen;omega
    case c4=>omega
    case c5=>simp;omega
    intro v' w1 bS hg _;have hrow:=fun q hq=>(bC.lt q hq).1;have hb1:=((b_.alloc (by omega) _).alloc (by simp;omega) _).grown hg (by simp;omega) (fun q hq=>by grind);clear hg hrow bC b_;go_wp2;go_roundw;case rel=>refine⟨k+1,by go_num,by omega,?_,hb1,fun e=>by rw[HH.out]at e;simp at e⟩;rw[_w,HH.out,PG,aI,pK,TF];exact bS
    case measure=>simp[intOf];omega
   ·have HH:Hid (cO Wt (k+1)=cO Wt k):=Ow (by rw[Jl.out];exact fW);go_wp2;go_roundw;case rel=>refine⟨k+1,by go_num,by omega,?_,b_.alloc (by omega) _,fun e=>_' (by rw[HH.out]at e;exact e)⟩;rw[HH.out];exact bC.alloc _
    case measure=>simp[intOf];omega
  ·have hge:¬(k:Int)<(n:Int):=by omega
   obtain rfl:k=n:=by omega
   have qe:=wC.trans (b_.mono (by omega));have iO:=(HW.below wC).below b_;have hzr:=b_.size;by_cases he:cO Wt k=[];·rw[he]at bC;have hv:=_' he;subst hv;clear iO bC;go_wp2_with fail;refine(vs _ _).mono ?_;rintro e w2 ⟨rfl,rfl⟩;go_wp2;go_ret;exact⟨_,[],rfl,.inl ⟨rfl,rfl⟩,by rw[he],List.Pairwise.nil,qe⟩
   ·obtain⟨g,cp,rfl,Ap,lz,hg3,hrow⟩:=PX bC he;have HS:Hid (Cw 270 #[Sq g (cO Wt k).length cp,.func (.func 271) #[] #[Pq w.heap.size]] wr fun e w'=>e=Rw (.tuple #[])/\Sorted wr w' g 0 (AN (fun i=>Mx i.toNat-Mn i.toNat) (fun i=>Wt i.toNat)) [] (dd (cO Wt k)) []):=by
     refine lN 271 #[Pq w.heap.size] (enters_of func271 (by kernel_rfl) rfl) (fun i k=>jQ ((Mx i.toNat-Mn i.toNat)*Wt k.toNat) ((Mx k.toNat-Mn k.toNat)*Wt i.toNat)) (dd (cO Wt k)) (AN (fun i=>Mx i.toNat-Mn i.toNat) (fun i=>Wt i.toNat)) (PQ _ _ _ ?_) wr g 0 cp ?_ (dd (cO Wt k)) wr (cO Wt k).length (dl _ _) hrow (fun x hx=>hx) (C6 (Ku Wt k)) (ez _) (by grind[qf]);·intro x hx;obtain⟨j,rfl,hj⟩:=oY hx;have:=(qg hj).2;grind
     ·refine JT k w.heap.size blk off cap g Mn Mx Wt wr ?_ iO.2 (fun j _=>HR j) _ ?_ (by omega) (by omega) (by omega) (by omega) iO.1;·exact(b_.cell (p:=(aq w.heap.size 0)) (by grind)).trans zgs
      ·intro x hx;obtain⟨j,rfl,hj⟩:=oY hx;exact⟨j,rfl,(qg hj).1⟩
    have hfin:∀w2,Sorted wr w2 g 0 (AN (fun i=>Mx i.toNat-Mn i.toNat) (fun i=>Wt i.toNat)) [] (dd (cO Wt k)) []->∃Q,Q.length=(cO Wt k).length/\zax w.heap.size w2 (Sq g (cO Wt k).length cp) Q/\Q.Perm (cO Wt k)/\Q.Pairwise (RFl Mn Mx Wt)/\Bt w w2:=by
     rintro w2 ⟨⟨M,hp,BW,hr2⟩,fd⟩;obtain⟨Q,rfl,hq⟩:=qD hp;have hql:=hq.length_eq;refine⟨Q,hql,.inr ⟨fun e=>he (by grind),g,cp,by rw[hql],by omega,by omega,hg3,by simpa using hr2⟩,hq,?_,?_⟩;·unfold dd at BW;rw[Q9]at BW;refine BW.imp fun{i k} h=>?_;grind[AN,RFl]
     ·exact qe.grown fd (by omega) (fun q hq=>by grind)
    have HF:=qH<|hfin;clear hfin iO bC hrow;go_wp2_with fail;refine HS.mono ?_;rintro e w2 ⟨rfl,hS⟩;obtain⟨Q,hQ1,hQ2,hQ3,hQ4,hQ5⟩:=HF w2 hS;clear hS hQ1;go_wp2;go_ret;exact⟨_,Q,rfl,hQ2,hQ3,hQ4,hQ5⟩
theorem sH{P}{uW}{o}{a}{w}{K}{Q}{E}
 (hg:o.guard=none)  s x   t  (hop:o.op=Op.call {callee:=Callee.builtin Builtin.append,args:=#[s,x],argTypes:=#[t,t]})
  base   e   i   z   size bytes  (h1:P.underlying t=some (.slice e)) (h2:P.info? e=some i) (h3:i.zero=some z) (h4:i.size=size) (h5:i.bytes=bytes) (h6:z.cells.size=size) (h7:0<size)
  v   n   FH  (hs:a.eval s=v) (bC:w.ownsRow base e size v n FH)
  ad   m c   ie  (hx:a.eval x=.slice (some ad) m c) (hn:ie.length=m*size) (hc:∀j u,ie[j]?=some u->w.cell? (ad.add j)=some u) (RI:∀u∈ie,u.oneCell'=true)
 (b1:n+m<=maxLen) (b2:(n+m)*bytes<=140737488355328) (b3:base<=w.heap.size)
 (hK:∀v' w',w'.ownsRow base e size v' (n+m) (FH++ie)->w.grownBy w' v.ownBlock->K (a.put o.dst v') w'):
 if Region.wanted o (yielded uW a.tmps)=true then Oper.wp P o a w K Q else E:=by
 have hw:Region.wanted o (yielded uW a.tmps)=true:=by simp[Region.wanted,hg]
 rw[if_pos hw];obtain⟨v',w',wG,r1,r2,_⟩:=run_append_own (P:=P) w base t o.type e i z size bytes h1 h2 h3 h4 h5 h6 h7 v n FH bC ad m c ie hn hc RI b1 b2 b3;unfold Oper.wp;simp[execOp,hop,resolve,invoke,builtin,hs,hx,wG,Result.andThen];exact hK v' w' r1 r2
