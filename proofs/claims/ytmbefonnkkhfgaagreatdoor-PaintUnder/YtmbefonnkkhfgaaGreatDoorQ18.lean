import Derived.Test.YtmbefonnkkhfgaaGreatDoorQ00
import Derived.Test.YtmbefonnkkhfgaaGreatDoorQ12
import Derived.Test.YtmbefonnkkhfgaaGreatDoorQ16
set_option linter.unusedVariables false
set_option maxRecDepth 100000
set_option maxHeartbeats 16000000
namespace Go.Proofs.YtmbefonnkkhfgaaGreatDoor
section
open Go.RowKit Go.Sort Go.Proofs.Tryz
theorem sinfo3:(prog.info? 3).map (fun i=>(i.zero,i.size,i.bytes))=some (some (Iq 0),1,8):=by kernel_rfl
def nums(l:List Nat):List Int:=l.map fun(j:Nat)=>(j:Int)
theorem nums_len(l:List Nat):(nums l).length=l.length:=by simp[nums]
theorem nums_app(l m:List Nat):nums (l++m)=nums l++nums m:=by simp[nums]
theorem nums_mem{l:List Nat}{x:Int}(h:x∈nums l):∃j:Nat,x=j∧j∈l:=by obtain⟨j,hj,rfl⟩:=List.mem_map.1 h;exact⟨j,rfl,hj⟩
theorem nums_asc{l:List Nat}(h:l.Pairwise (·<·)):(nums l).Pairwise (·<·):=by unfold nums;rw[List.pairwise_map];exact h.imp fun h=>by omega
theorem nums_perm{l:List Nat}{B:List Int}(h:B.Perm (nums l)):∃Q:List Nat,B=nums Q∧Q.Perm l:=by
 refine⟨B.map Int.toNat,?_,?_⟩
 ·have:∀x∈B,((x.toNat:Nat):Int)=x:=fun x hx=>by obtain⟨j,rfl,_⟩:=nums_mem (h.mem_iff.1 hx);simp
  unfold nums;rw[List.map_map];conv=>lhs;rw[<-List.map_id B]
  exact List.map_congr_left fun x hx=>(this x hx).symm
 ·have:=h.map Int.toNat;refine this.trans ?_;unfold nums;rw[List.map_map];have:(Int.toNat∘fun(j:Nat)=>(j:Int))=id:=by funext j;simp
  rw[this,List.map_id]
def heavy(Wt:Nat->Int)(k:Nat):List Nat:=(List.range k).filter fun j=>decide (0<Wt j)
theorem heavy_yes{Wt:Nat->Int}{k:Nat}(h:0<Wt k):heavy Wt (k+1)=heavy Wt k++[k]:=by unfold heavy;rw[List.range_succ,List.filter_append];simp[h]
theorem heavy_no{Wt:Nat->Int}{k:Nat}(h:¬0<Wt k):heavy Wt (k+1)=heavy Wt k:=by unfold heavy;rw[List.range_succ,List.filter_append];simp[h]
theorem heavy_asc(Wt:Nat->Int)(k:Nat):(heavy Wt k).Pairwise (·<·):=List.pairwise_lt_range.filter _
theorem heavy_len(Wt:Nat->Int)(k:Nat):(heavy Wt k).length≤k:=by have:=List.length_filter_le (fun j=>decide (0<Wt j)) (List.range k);rw[List.length_range]at this;exact this
theorem heavy_mem{Wt:Nat->Int}{k j:Nat}(h:j∈heavy Wt k):j<k∧0<Wt j:=by simpa[heavy]using h
theorem irow_own{w:World}{B n g cap:Nat}{zs:List Int}(h:w.ownsRow B 3 1 (Sq g n cap) n (zs.map (Value.int .i64))):IRow w g 0 zs:=by
 have hl:zs.length=n:=by have:=h.1;simpa using this
 rcases h.2 with⟨h',_⟩|⟨g',cap',cur,h',hb,hg,hnc,hcm,hcs,htake⟩;·simp at h'
 ·simp only[Value.slice.injEq,Option.some.injEq,Addr.mk.injEq,and_true,true_and]at h';obtain⟨rfl,rfl⟩:=h';refine⟨(Array.getElem?_eq_some_iff.1 hg).1,fun j hj=>⟨?_,frozen_of_row w g _ cur 3 hg⟩⟩;have:=h.cells (g:=g) rfl j (Iq (zs[j]?.getD 0)) (by simp[hj]);have e:(⟨g,0,none⟩:Addr).add j=⟨g,0+j,none⟩:=by unfold Addr.add;split<;>simp_all
  rwa[e]at this
def ORow(B:Nat)(W:World)(v:Value)(Q:List Nat):Prop:=(Q=[]∧v=.slice none 0 0)∨(Q≠[]∧∃g cap,v=Sq g Q.length cap∧B≤g∧Q.length≤cap∧cap≤maxLen∧IRow W g 0 (nums Q))
theorem orow_own{w:World}{B:Nat}{v:Value}{Q:List Nat}(h:w.ownsRow B 3 1 v (nums Q).length ((nums Q).map (Value.int .i64)))(hne:Q≠[]):∃g cap,v=Sq g Q.length cap∧B≤g∧Q.length≤cap∧cap≤maxLen∧IRow w g 0 (nums Q):=by
 have h0:=h;rcases h.2 with⟨rfl,e⟩|⟨g,cap,cur,rfl,hb,hg,h1,h2,_⟩;·exact(hne (List.length_eq_zero_iff.1 (by rw[nums_len]at e;exact e))).elim
 ·exact⟨g,cap,by rw[nums_len],hb,by rw[nums_len]at h1;exact h1,h2,irow_own h0⟩
def RFl(Mn Mx Wt:Nat->Int)(i k:Nat):Prop:=(Mx i-Mn i)*Wt k≤(Mx k-Mn k)*Wt i
theorem order_any(n blk off cap:Nat)(Mn Mx Wt:Nat->Int)(w:World)(h:WRow w blk off n Mn Mx Wt)(hR:∀j,0≤Mx j-Mn j∧Mx j-Mn j≤1073741824∧0≤Wt j∧Wt j≤1073741824)(hn:n≤1073741824):
 Calls prog 180 #[.slice (some ⟨blk,off,none⟩) n cap] w fun e w'=>∃v Q,e=.returned v∧ORow w.heap.size w' v Q∧Q.Perm (heavy Wt n)∧Q.Pairwise (RFl Mn Mx Wt)∧Below w.heap.size w w':=by
 obtain⟨i0,hi,hz0,hz1,hz2⟩:=info_parts sinfo3;have HW:=qH<|h;have HR:=qH<|hR;have hblk:=h.1;clear h hR;go_enter func180,ntmps180;go_wp2;obtain⟨w0,hw0⟩:=nmd (w.alloc (.cells #[.slice (some ⟨blk,off,none⟩) n cap] 150));rw[hw0];have hs0:w0.heap.size=w.heap.size+1:=by rw[<-hw0];simp
 have hb0:Below w.heap.size w w0:=by rw[<-hw0];exact(Below.refl _ _).alloc (Nat.le_refl _) _
 have hbox:w0.cell? ⟨w.heap.size,0,none⟩=some (.slice (some ⟨blk,off,none⟩) n cap):=by rw[<-hw0,World.cell?_alloc_at _ _ _ _ rfl];rfl
 clear hw0;go_loopw[3,8] (fun v i wr=>∃k:Nat,i=Iq k∧k≤n∧wr.ownsRow w0.heap.size 3 1 v (nums (heavy Wt k)).length ((nums (heavy Wt k)).map (Value.int .i64))∧Below w0.heap.size w0 wr∧Hid (heavy Wt k=[]->v=.slice none 0 0)) (fun _ i _=>n-(intOf i).toNat);case atStart=>exact⟨0,rfl,Nat.zero_le _,World.ownsRow_nil _ _ _ _,Below.refl _ _,fun _=>rfl⟩
 case round=>
  obtain⟨k,rfl,hk,hown,hbw,HNil⟩:=hrel;by_cases hlt:k<n
  ·have hlt':(k:Int)<(n:Int):=by omega
   have hw1:=(HW.below hb0).below hbw;have hc:=hw1.2 k hlt;obtain⟨a1,ha1⟩:=nmd (Mn k);obtain⟨a2,ha2⟩:=nmd (Mx k);obtain⟨a3,ha3⟩:=nmd (Wt k);rw[ha1,ha2,ha3]at hc;have hz:=hw1.1;have hzr:=hbw.size;obtain⟨ca1,ca2,ca3⟩:=hc;have HA3:=qH<|ha3;have hkl:=heavy_len Wt k;have hnl:=nums_len (heavy Wt k);clear hw1 ha1 ha2 ha3;by_cases hpos:0<a3
   ·have HH:Hid (heavy Wt (k+1)=heavy Wt k++[k]):=heavy_yes (by rw[HA3.out];exact hpos);go_wp2_with(at_builtin;refine wpList_append_own _ rfl _ _ 59 rfl w0.heap.size 3 i0 (Iq 0) 1 8 underlying59 hi hz0 hz1 hz2 rfl (by decide) _ _ _ rfl ((hown.alloc _).alloc _) _ 1 1 [Iq (k:Int)] rfl rfl ?c1 ?c2 ?c3 ?c4 ?c5 ?_);case c1=>intro j u hj;have:=cell_one_new (wr.alloc (.cells #[Iq a1,Iq a2,Iq a3] 246)) (Iq (k:Int)) 3 j u hj;rw[World.size_alloc]at this;exact this
    case c2=>intro u hu;simp at hu;subst hu;rfl
    case c3=>unfold maxLen;omega
    case c4=>omega
    case c5=>simp;omega
    intro v' w1 hown' hg _;have hrow:=fun q hq=>(hown.lt q hq).1;have hb1:=((hbw.alloc (by omega) _).alloc (by simp;omega) _).grown hg (by simp;omega) (fun q hq=>by have:=hrow q hq;omega);clear hg hrow hown hbw;go_wp2;go_roundw;case rel=>refine⟨k+1,by go_num,by omega,?_,hb1,fun e=>by rw[HH.out]at e;simp at e⟩;rw[hs0,HH.out,nums_app,List.length_append,List.map_append,hnl];exact hown'
    case measure=>simp[intOf];omega
   ·have HH:Hid (heavy Wt (k+1)=heavy Wt k):=heavy_no (by rw[HA3.out];exact hpos);go_wp2;go_roundw;case rel=>refine⟨k+1,by go_num,by omega,?_,hbw.alloc (by omega) _,fun e=>HNil (by rw[HH.out]at e;exact e)⟩;rw[HH.out];exact hown.alloc _
    case measure=>simp[intOf];omega
  ·have hge:¬(k:Int)<(n:Int):=by omega
   obtain rfl:k=n:=by omega
   have hbb:=hb0.trans (hbw.mono (by omega));have hw1:=(HW.below hb0).below hbw;have hzr:=hbw.size;by_cases he:heavy Wt k=[];·rw[he]at hown;have hv:=HNil he;subst hv;clear hw1 hown;go_wp2_with fail;refine(sortStable_nil _ _).mono ?_;rintro e w2 ⟨rfl,rfl⟩;go_wp2;go_ret;exact⟨_,[],rfl,.inl ⟨rfl,rfl⟩,by rw[he],List.Pairwise.nil,hbb⟩
   ·obtain⟨g,cp,rfl,hg1,hg2,hg3,hrow⟩:=orow_own hown he;have HS:Hid (Calls prog 192 #[Sq g (heavy Wt k).length cp,.func (.func 193) #[] #[Pq w.heap.size]] wr fun e w'=>e=.returned (.tuple #[])∧Sorted wr w' g 0 (RFill (fun i=>Mx i.toNat-Mn i.toNat) (fun i=>Wt i.toNat)) [] (nums (heavy Wt k)) []):=by
     refine sortStable_any 193 #[Pq w.heap.size] (enters_of func193 (by kernel_rfl) rfl) (fun i k=>cmpI ((Mx i.toNat-Mn i.toNat)*Wt k.toNat) ((Mx k.toNat-Mn k.toNat)*Wt i.toNat)) (nums (heavy Wt k)) (RFill (fun i=>Mx i.toNat-Mn i.toNat) (fun i=>Wt i.toNat)) (ord_fill _ _ _ ?_) wr g 0 cp ?_ (nums (heavy Wt k)) wr (heavy Wt k).length (grown_refl _ _) hrow (fun x hx=>hx) (nums_asc (heavy_asc Wt k)) (nums_len _) (by have:=heavy_len Wt k;omega);·intro x hx;obtain⟨j,rfl,hj⟩:=nums_mem hx;have:=(heavy_mem hj).2;simpa using this
     ·refine cmpG_fill k w.heap.size blk off cap g Mn Mx Wt wr ?_ hw1.2 (fun j _=>HR j) _ ?_ (by omega) (by omega) (by omega) (by omega) hw1.1;·exact(hbw.cell (p:=⟨w.heap.size,0,none⟩) (by show w.heap.size<_;omega)).trans hbox
      ·intro x hx;obtain⟨j,rfl,hj⟩:=nums_mem hx;exact⟨j,rfl,(heavy_mem hj).1⟩
    have hfin:∀w2,Sorted wr w2 g 0 (RFill (fun i=>Mx i.toNat-Mn i.toNat) (fun i=>Wt i.toNat)) [] (nums (heavy Wt k)) []->∃Q,Q.length=(heavy Wt k).length∧ORow w.heap.size w2 (Sq g (heavy Wt k).length cp) Q∧Q.Perm (heavy Wt k)∧Q.Pairwise (RFl Mn Mx Wt)∧Below w.heap.size w w2:=by
     rintro w2 ⟨⟨M,hp,hpw,hr2⟩,hgr⟩;obtain⟨Q,rfl,hq⟩:=nums_perm hp;have hql:=hq.length_eq;refine⟨Q,hql,.inr ⟨fun e=>he (by rw[e]at hq;exact hq.symm.eq_nil),g,cp,by rw[hql],by omega,by omega,hg3,by simpa using hr2⟩,hq,?_,?_⟩;·unfold nums at hpw;rw[List.pairwise_map]at hpw;refine hpw.imp fun{i k} h=>?_;simp only[RFill,Int.toNat_natCast]at h;unfold RFl;rcases h with h|⟨h,_⟩<;>omega
     ·exact hbb.grown hgr (by omega) (fun q hq=>by injection hq with hq;omega)
    have HF:=qH<|hfin;clear hfin hw1 hown hrow;go_wp2_with fail;refine HS.mono ?_;rintro e w2 ⟨rfl,hS⟩;obtain⟨Q,hQ1,hQ2,hQ3,hQ4,hQ5⟩:=HF w2 hS;clear hS hQ1;go_wp2;go_ret;exact⟨_,Q,rfl,hQ2,hQ3,hQ4,hQ5⟩
end
end Go.Proofs.YtmbefonnkkhfgaaGreatDoor
