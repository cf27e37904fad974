import Derived.Test.YtbeiapdobffpiaaGreatDoorQ11
import Derived.Test.YtbeiapdobffpiaaGreatDoorQ16
set_option linter.all false
set_option maxRecDepth 100000
set_option maxHeartbeats 16000000
namespace Go.Proofs.YtbeiapdobffpiaaGreatDoor
open Go.RowKit Go.Sort Go.Proofs.Tryz
theorem T7:(prog.info? 3).map (fun i=>(i.zero,i.size,i.bytes))=some (some (Iq 0),1,8):=by kernel_rfl
def dp(l:List Nat):List Int:=l.map fun(j:Nat)=>(j:Int)
theorem eO  l  :(dp l).length=l.length:=by simp[dp]
theorem K5  l m  :dp (l++m)=dp l++dp m:=by simp[dp]
theorem nQ{l}{x}(h:x∈dp l):∃j:Nat,x=j/\j∈l:=by obtain⟨j,hj,rfl⟩:=Bi.1 h;grind
theorem zP{l}(h:l.Pairwise (·<·)):(dp l).Pairwise (·<·):=by grind[dp]
theorem pi{l}{B}(h:B.Perm (dp l)):∃Q,B=dp Q/\Q.Perm l:=by
 refine⟨B.map Int.toNat,?_,?_⟩
 ·have:∀x∈B,((x.toNat:Nat):Int)=x:=fun x hx=>by grind[nQ]
  unfold dp;rw[List.map_map];conv=>lhs;rw[<-List.map_id B]
  exact List.map_congr_left fun x hx=>(this x hx).symm
 ·have:=h.map Int.toNat;refine this.trans ?_;unfold dp;rw[List.map_map];have:(Int.toNat∘fun(j:Nat)=>(j:Int))=id:=by funext j;simp
  simp_all
def dd(Wt:Nat->Int)(k:Nat):List Nat:=(List.range k).filter fun j=>decide (0<Wt j)
theorem Gg{Wt}{k}(h:0<Wt k):dd Wt (k+1)=dd Wt k++[k]:=by unfold dd;rw[ka,List.filter_append];simp[h]
theorem J5{Wt}{k}(h:¬0<Wt k):dd Wt (k+1)=dd Wt k:=by unfold dd;rw[ka,List.filter_append];simp[h]
theorem Gf  Wt   k  :(dd Wt k).Pairwise (·<·):=List.pairwise_lt_range.filter _
theorem oQ  Wt   k  :(dd Wt k).length<=k:=by have:=List.length_filter_le (fun j=>decide (0<Wt j)) (List.range k);rw[Fg]at this;exact this
theorem oR{Wt}{k j}(h:j∈dd Wt k):j<k/\0<Wt j:=by grind[dd]
theorem Ky{w}{B n g al}{zs}(h:w.ownsRow B 3 1 (Sq g n al) n (zs.map (Value.int .i64))):a_ w g 0 zs:=by
 have hl:zs.length=n:=by have:=h.1;simpa using this
 rcases h.2 with⟨h',_⟩|⟨g',mg,iT,h',hb,hg,Ke,ZE,qB,XZ⟩;·simp at h'
 ·simp only[Bj,Fh,Addr.mk.injEq,and_true,true_and]at h';obtain⟨rfl,rfl⟩:=h';refine⟨(aS.1 hg).1,fun j hj=>⟨?_,frozen_of_row w g _ iT 3 hg⟩⟩;have:=h.cells (g:=g) rfl j (Iq (zs[j]?.getD 0)) (by simp[hj]);have e:((az g 0):Addr).add j=(az g (0+j)):=by unfold Addr.add;split<;>simp_all
  rwa[e]at this
def Wc(B:Nat)(W:World)(v:Value)(Q:List Nat):Prop:=(Q=[]/\v=.slice none 0 0)\/(Q≠[]/\∃g al,v=Sq g Q.length al/\B<=g/\Q.length<=al/\al<=maxLen/\a_ W g 0 (dp Q))
theorem K9{w}{B}{v}{Q}(h:w.ownsRow B 3 1 v (dp Q).length ((dp Q).map (Value.int .i64)))(bG:Q≠[]):∃g al,v=Sq g Q.length al/\B<=g/\Q.length<=al/\al<=maxLen/\a_ w g 0 (dp Q):=by have h0:=h;rcases h.2 with⟨rfl,e⟩|⟨g,al,iT,rfl,hb,hg,h1,h2,_⟩;all_goals grind[eO,Ky]
def Wg(Mn Mx Wt:Nat->Int)(i k:Nat):Prop:=(Mx i-Mn i)*Wt k<=(Mx k-Mn k)*Wt i
theorem G6(n blk off al:Nat)(Mn Mx Wt:Nat->Int)(w:World)(h:eD w blk off n Mn Mx Wt)(hR:∀j,0<=Mx j-Mn j/\Mx j-Mn j<=1073741824/\0<=Wt j/\Wt j<=1073741824)(hn:n<=1073741824):
 Cw 207 #[.slice (some (az blk off)) n al] w fun e w'=>∃v Q,e=Rw v/\Wc w.heap.size w' v Q/\Q.Perm (dd Wt n)/\Q.Pairwise (Wg Mn Mx Wt)/\Bt w w':=by
 obtain⟨i0,hi,eK,fZ,iD⟩:=info_parts T7;have HW:=qH<|h;have HR:=qH<|hR;have wK:=h.1;clear h hR;go_enter func207,ntmps207;go_wp2;obtain⟨w0,hw0⟩:=aj (w.alloc (.cells #[.slice (some (az blk off)) n al] 187));rw[hw0];have Gy:w0.heap.size=w.heap.size+1:=by rw[<-hw0];simp
 have hb0:Bt w w0:=by rw[<-hw0];exact(ag _ _).alloc (ai _) _
 have zbA:w0.cell? (az w.heap.size 0)=some (.slice (some (az blk off)) n al):=by rw[<-hw0,World.cell?_alloc_at _ _ _ _ rfl];rfl
 clear hw0;go_loopw[3,8] (fun v i wr=>∃k:Nat,i=Iq k/\k<=n/\wr.ownsRow w0.heap.size 3 1 v (dp (dd Wt k)).length ((dp (dd Wt k)).map (Value.int .i64))/\Bt w0 wr/\Hid (dd Wt k=[]->v=.slice none 0 0)) (fun _ i _=>n-(intOf i).toNat);case atStart=>exact⟨0,rfl,bc _,gM _ _ _ _,ag _ _,fun _=>rfl⟩
 case round=>
  obtain⟨k,rfl,hk,bi,hbw,VM⟩:=hrel;by_cases hlt:k<n
  ·have aK:(k:Int)<(n:Int):=by omega
   have eu:=(HW.below hb0).below hbw;have hc:=eu.2 k hlt;obtain⟨a1,ha1⟩:=aj (Mn k);obtain⟨a2,ha2⟩:=aj (Mx k);obtain⟨a3,ha3⟩:=aj (Wt k);rw[ha1,ha2,ha3]at hc;have hz:=eu.1;have hzr:=hbw.size;obtain⟨ca1,ca2,ca3⟩:=hc;have Fp:=qH<|ha3;have dD:=oQ Wt k;have QY:=eO (dd Wt k);clear eu ha1 ha2 ha3;by_cases dL:0<a3
   ·have HH:Hid (dd Wt (k+1)=dd Wt k++[k]):=Gg (by rw[Fp.out];exact dL);go_wp2_with(at_builtin;refine wpList_append_own _ rfl _ _ 98 rfl w0.heap.size 3 i0 (Iq 0) 1 8 underlying98 hi eK fZ iD rfl (by decide) _ _ _ rfl ((bi.alloc _).alloc _) _ 1 1 [Iq (k:Int)] rfl rfl ?c1 ?c2 ?c3 ?c4 ?c5 ?_);case c1=>intro j u hj;have:=cell_one_new (wr.alloc (.cells #[Iq a1,Iq a2,Iq a3] 277)) (Iq (k:Int)) 3 j u hj;simp_all
    case c2=>intro u hu;simp at hu;subst hu;rfl
    case c3=>unfold maxLen;omega
    case c4=>omega
    case c5=>simp;omega
    intro v' w1 bK hg _;have hrow:=fun q hq=>(bi.lt q hq).1;have hb1:=((hbw.alloc (by omega) _).alloc (by simp;omega) _).grown hg (by simp;omega) (fun q hq=>by grind);clear hg hrow bi hbw;go_wp2;go_roundw;case rel=>refine⟨k+1,by go_num,by omega,?_,hb1,fun e=>by rw[HH.out]at e;simp at e⟩;rw[Gy,HH.out,K5,bf,li,QY];exact bK
    case measure=>simp[intOf];omega
   ·have HH:Hid (dd Wt (k+1)=dd Wt k):=J5 (by rw[Fp.out];exact dL);go_wp2;go_roundw;case rel=>refine⟨k+1,by go_num,by omega,?_,hbw.alloc (by omega) _,fun e=>VM (by rw[HH.out]at e;exact e)⟩;rw[HH.out];exact bi.alloc _
    case measure=>simp[intOf];omega
  ·have qC:¬(k:Int)<(n:Int):=by omega
   obtain rfl:k=n:=by omega
   have qZ:=hb0.trans (hbw.mono (by omega));have eu:=(HW.below hb0).below hbw;have hzr:=hbw.size;by_cases he:dd Wt k=[];·rw[he]at bi;have hv:=VM he;subst hv;clear eu bi;go_wp2_with fail;refine(sW _ _).mono ?_;rintro e w2 ⟨rfl,rfl⟩;go_wp2;go_ret;exact⟨_,[],rfl,.inl ⟨rfl,rfl⟩,by rw[he],List.Pairwise.nil,qZ⟩
   ·obtain⟨g,cp,rfl,wN,lN,ZH,hrow⟩:=K9 bi he;have HS:Hid (Cw 229 #[Sq g (dd Wt k).length cp,.func (.func 230) #[] #[Pq w.heap.size]] wr fun e w'=>e=Rw (.tuple #[])/\Sorted wr w' g 0 (yf (fun i=>Mx i.toNat-Mn i.toNat) (fun i=>Wt i.toNat)) [] (dp (dd Wt k)) []):=by
     refine k_ 230 #[Pq w.heap.size] (enters_of func230 (by kernel_rfl) rfl) (fun i k=>jw ((Mx i.toNat-Mn i.toNat)*Wt k.toNat) ((Mx k.toNat-Mn k.toNat)*Wt i.toNat)) (dp (dd Wt k)) (yf (fun i=>Mx i.toNat-Mn i.toNat) (fun i=>Wt i.toNat)) (K7 _ _ _ ?_) wr g 0 cp ?_ (dp (dd Wt k)) wr (dd Wt k).length (dA _ _) hrow (fun x hx=>hx) (zP (Gf Wt k)) (eO _) (by grind[oQ]);·intro x hx;obtain⟨j,rfl,hj⟩:=nQ hx;have:=(oR hj).2;grind
     ·refine FT k w.heap.size blk off al g Mn Mx Wt wr ?_ eu.2 (fun j _=>HR j) _ ?_ (by omega) (by omega) (by omega) (by omega) eu.1;·exact(hbw.cell (p:=(az w.heap.size 0)) (by grind)).trans zbA
      ·intro x hx;obtain⟨j,rfl,hj⟩:=nQ hx;exact⟨j,rfl,(oR hj).1⟩
    have hfin:∀w2,Sorted wr w2 g 0 (yf (fun i=>Mx i.toNat-Mn i.toNat) (fun i=>Wt i.toNat)) [] (dp (dd Wt k)) []->∃Q,Q.length=(dd Wt k).length/\Wc w.heap.size w2 (Sq g (dd Wt k).length cp) Q/\Q.Perm (dd Wt k)/\Q.Pairwise (Wg Mn Mx Wt)/\Bt w w2:=by
     rintro w2 ⟨⟨M,hp,zg,hr2⟩,fQ⟩;obtain⟨Q,rfl,hq⟩:=pi hp;have hql:=hq.length_eq;refine⟨Q,hql,.inr ⟨fun e=>he (by grind),g,cp,by rw[hql],by omega,by omega,ZH,by simpa using hr2⟩,hq,?_,?_⟩;·unfold dp at zg;rw[Mr]at zg;refine zg.imp fun{i k} h=>?_;grind[yf,Wg]
     ·exact qZ.grown fQ (by omega) (fun q hq=>by grind)
    have HF:=qH<|hfin;clear hfin eu bi hrow;go_wp2_with fail;refine HS.mono ?_;rintro e w2 ⟨rfl,hS⟩;obtain⟨Q,hQ1,hQ2,W_,hQ4,hQ5⟩:=HF w2 hS;clear hS hQ1;go_wp2;go_ret;exact⟨_,Q,rfl,hQ2,W_,hQ4,hQ5⟩
