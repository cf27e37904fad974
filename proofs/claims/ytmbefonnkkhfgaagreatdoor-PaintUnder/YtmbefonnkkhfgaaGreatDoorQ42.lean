import Derived.Shelf.SortM.Plain
import Derived.Shelf.SortM.SortNone
import Derived.Ground.SlgmProg
import Derived.Test.YtmbefonnkkhfgaaGreatDoorQ09
import Derived.Test.YtmbefonnkkhfgaaGreatDoorQ00
import Derived.Test.YtmbefonnkkhfgaaGreatDoorQ18
set_option linter.unusedVariables false
set_option maxRecDepth 100000
set_option maxHeartbeats 16000000
namespace Go.Proofs.YtmbefonnkkhfgaaGreatDoor
end Go.Proofs.YtmbefonnkkhfgaaGreatDoor
namespace Go.Proofs
open Go.Shelf
shelf_lay_g SlLaysM.n5 Slgm 5 at Tryz 195 as Tryz.sortLaid
end Go.Proofs
namespace Go.Proofs.YtmbefonnkkhfgaaGreatDoor
section
open Go.RowKit Go.Sort Go.Proofs.Tryz
theorem grownBy_sorted{w:World}{g n off:Nat}{os:Array Obj}(d:Array Int):w.grownBy (grow (putRow (Value.int .i64) (Sort.ahead w n) g off d) os) (some g):=by refine⟨rfl,rfl,rfl,by simp,fun k hk hne=>?_⟩;rw[heap_grow_old _ _ (by simpa using hk)];have:g≠k:=fun e=>hne (by rw[e]);simp[putRow,mapBlock,Sort.ahead,Array.getElem?_modify,this]
theorem slicesSort_any(zs:List Int)(blk off cap n:Nat)(w:World)(h:IRow w blk off zs)(hn:zs.length=n)(hlen:n≤1099511627776):
 Calls prog 195 #[.slice (some ⟨blk,off,none⟩) n cap] w fun e w'=>e=.returned (.tuple #[])∧IRow w' blk off (zs.mergeSort fun x y=>decide (x≤y))∧w.grownBy w' (some blk):=by
 subst hn;have hH:Holds (Value.int .i64) w blk off zs.toArray:=fun j hj=>by
  have hj':j<zs.length:=by simpa using hj
  refine⟨?_,(h.2 j hj').2⟩;rw[(h.2 j hj').1];simp[hj']
 refine(AnyM.slices_Sort_int Tryz.sortLaid blk off cap zs w hH h.1 (by omega)).mono ?_;rintro e w' ⟨he,q,os,rfl⟩;refine⟨he,?_,grownBy_sorted _⟩;obtain⟨ms,hms⟩:=nmd (zs.mergeSort fun x y=>decide (x≤y));have hml:ms.length=zs.length:=by rw[<-hms];exact(List.mergeSort_perm _ _).length_eq
 rw[hms];have h1:Holds (Value.int .i64) (putRow (Value.int .i64) (Sort.ahead w q) blk off ms.toArray) blk off ms.toArray:=holds_putRow _ _ _ _ zs.toArray _ hH (by simp[hml]);have hX:blk<(putRow (Value.int .i64) (Sort.ahead w q) blk off ms.toArray).heap.size:=by simpa using h.1
 have hB:Below (putRow (Value.int .i64) (Sort.ahead w q) blk off ms.toArray).heap.size (putRow (Value.int .i64) (Sort.ahead w q) blk off ms.toArray) (grow (putRow (Value.int .i64) (Sort.ahead w q) blk off ms.toArray) os):=
  ⟨rfl,rfl,rfl,by simp,fun k hk=>heap_grow_old _ _ hk⟩;refine⟨Nat.lt_of_lt_of_le hX hB.size,fun j hj=>?_⟩;have:=h1 j (by simpa using hj);refine⟨(hB.cell (p:=⟨blk,off+j,none⟩) hX).trans (this.1.trans ?_),(hB.frozen (p:=⟨blk,off+j,none⟩) hX).trans this.2⟩;simp[hj]
end
section
open Go.RowKit Go.Sort Go.Proofs.Tryz
def FRow(W:World)(blk off n:Nat)(g:Nat->Int):Prop:=blk<W.heap.size∧∀j,j<n->W.cell? ⟨blk,off+j,none⟩=some (Iq (g j))∧W.frozen? ⟨blk,off+j,none⟩=false
def upd(g:Nat->Int)(i:Nat)(y:Int):Nat->Int:=fun k=>if k=i then y else g k
theorem FRow.set{W:World}{blk off n:Nat}{g:Nat->Int}(h:FRow W blk off n g)(i:Nat)(y:Int)(hi:i<n):FRow (W.setCell ⟨blk,off+i,none⟩ (Iq y)) blk off n (upd g i y):=by
 refine⟨by simpa using h.1,fun k hk=>?_⟩;simp only[World.frozen?_setCell];refine⟨?_,(h.2 k hk).2⟩;rw[set_at _ _ _ _ _ ⟨_,(h.2 i hi).1⟩];unfold upd;by_cases e:k=i;·rw[if_pos e,if_pos (by omega)]
 ·rw[if_neg e,if_neg (by omega)];exact(h.2 k hk).1
theorem FRow.other{W:World}{blk off n:Nat}{g:Nat->Int}(h:FRow W blk off n g)(b o:Nat)(v:Value)(hb:b≠blk):FRow (W.setCell ⟨b,o,none⟩ v) blk off n g:=by refine⟨by simpa using h.1,fun k hk=>?_⟩;simp only[World.frozen?_setCell];refine⟨?_,(h.2 k hk).2⟩;rw[World.cell?_setCell_other _ _ _ _ (fun e=>hb (by injection e with e1 e2)),(h.2 k hk).1]
theorem FRow.congr{W:World}{blk off n:Nat}{g g':Nat->Int}(h:FRow W blk off n g)(e:∀j,j<n->g j=g' j):FRow W blk off n g':=
 ⟨h.1,fun j hj=>by rw[<-e j hj];exact h.2 j hj⟩
theorem FRow.below{A B:World}{blk off n:Nat}{g:Nat->Int}(h:FRow A blk off n g)(hb:Below A.heap.size A B):FRow B blk off n g:=
 ⟨Nat.lt_of_lt_of_le h.1 hb.size,fun j hj=>⟨(hb.cell (p:=⟨blk,off+j,none⟩) h.1).trans (h.2 j hj).1,(hb.frozen (p:=⟨blk,off+j,none⟩) h.1).trans (h.2 j hj).2⟩⟩
theorem grown_frozen{A B:World}{r b o:Nat}(hb:A.grownBy B (some r))(hl:b<A.heap.size)(hn:b≠r):B.frozen? ⟨b,o,none⟩=A.frozen? ⟨b,o,none⟩:=by unfold World.frozen?;rw[hb.block b hl (fun e=>hn (by injection e))]
theorem FRow.grown{A B:World}{blk off n r:Nat}{g:Nat->Int}(h:FRow A blk off n g)(hb:A.grownBy B (some r))(hn:blk≠r):FRow B blk off n g:=
 ⟨Nat.lt_of_lt_of_le h.1 hb.size,fun j hj=>⟨hb.cell (h.2 j hj).1 (by simpa using hn),(grown_frozen hb h.1 hn).trans (h.2 j hj).2⟩⟩
theorem WRow.other{W:World}{blk off n:Nat}{a b c:Nat->Int}(h:WRow W blk off n a b c)(r o:Nat)(v:Value)(hb:r≠blk):WRow (W.setCell ⟨r,o,none⟩ v) blk off n a b c:=by have k:∀p,(W.setCell ⟨r,o,none⟩ v).cell? ⟨blk,p,none⟩=W.cell? ⟨blk,p,none⟩:=fun p=>World.cell?_setCell_other _ _ _ _ (fun e=>hb (by injection e with e1 e2));refine⟨by simpa using h.1,fun j hj=>by rw[k,k,k];exact h.2 j hj⟩
theorem IRow.other{W:World}{blk off:Nat}{d:List Int}(h:IRow W blk off d)(b o:Nat)(v:Value)(hb:b≠blk):IRow (W.setCell ⟨b,o,none⟩ v) blk off d:=by refine⟨by simpa using h.1,fun k hk=>?_⟩;simp only[World.frozen?_setCell];refine⟨?_,(h.2 k hk).2⟩;rw[World.cell?_setCell_other _ _ _ _ (fun e=>hb (by injection e with e1 e2)),(h.2 k hk).1]
theorem sorted_nums{Q:List Nat}(hq:Q.Nodup):∃A:List Nat,((nums Q).mergeSort fun x y=>decide (x≤y))=nums A∧A.Perm Q∧A.Pairwise (·<·):=by
 obtain⟨A,hA,hp⟩:=nums_perm (List.mergeSort_perm (nums Q) fun x y=>decide (x≤y));refine⟨A,hA,hp,?_⟩;have hs:(nums A).Pairwise (fun x y=>decide (x≤y)=true):=by rw[<-hA];exact List.pairwise_mergeSort (fun a b c h1 h2=>by simp at*;omega) (fun a b=>by simp;omega) _
 unfold nums at hs;rw[List.pairwise_map]at hs;have hn:=hp.nodup_iff.2 hq;refine(hs.and hn).imp fun h=>?_;have h1:=h.1;simp at h1;omega
structure DSt(w wr:World)(n lb lo wb wo ob oo B fb:Nat)(Mn Mx Wt g:Nat->Int)(A:List Nat)(L V:Int)(k:Nat):Prop where
 len:FRow wr lb lo n (fun j=>if j∈A.take k then g j+L*Wt j/V else g j)
 frac:FRow wr fb 0 n (fun j=>if j∈A.take k then L*Wt j %V else 0)
 open_:IRow wr ob oo (nums A)
 want:WRow wr wb wo n Mn Mx Wt
 box:wr.cell? ⟨fb+1,0,none⟩=some (Sq fb n n)
 size:fb+1<wr.heap.size
 bel:Below B w wr
theorem nums_at{A:List Nat}{k:Nat}(hk:k<A.length):(nums A)[k]?.getD 0=((A[k]?.getD 0:Nat):Int):=by simp[nums,hk]
theorem takeN_next(A:List Nat)(k:Nat)(hk:k<A.length):A.take (k+1)=A.take k++[A[k]?.getD 0]:=by rw[List.take_succ_eq_append_getElem hk,List.getElem?_eq_getElem hk];rfl
theorem atN_mem{A:List Nat}{k:Nat}(hk:k<A.length):A[k]?.getD 0∈A:=by rw[List.getElem?_eq_getElem hk];exact List.getElem_mem hk
theorem atN_notin{A:List Nat}{k:Nat}(hA:A.Nodup)(hk:k<A.length):A[k]?.getD 0∉A.take k:=by have h:=hA.sublist (List.take_sublist (k+1) A);rw[takeN_next A k hk,List.nodup_append]at h;exact fun hm=>h.2.2 _ hm _ (by simp) rfl
theorem DSt.next{w wr:World}{n lb lo wb wo ob oo B fb:Nat}{Mn Mx Wt g:Nat->Int}{A:List Nat}{L V:Int}{k:Nat}(h:DSt w wr n lb lo wb wo ob oo B fb Mn Mx Wt g A L V k)(hA:A.Nodup)(hk:k<A.length)(i:Nat)(hi:A[k]?.getD 0=i)(hin:i<n)(h1:lb≠ob)(h2:lb≠wb)(h3:lb<fb)(h4:ob<fb)(h5:wb<fb)(hB1:B≤lb)(hB2:B≤fb):
 DSt w ((wr.setCell ⟨lb,lo+i,none⟩ (Iq (g i+L*Wt i/V))).setCell ⟨fb,0+i,none⟩ (Iq (L*Wt i %V))) n lb lo wb wo ob oo B fb Mn Mx Wt g A L V (k+1):=by
 have ht:=takeN_next A k hk;have hni:=atN_notin hA hk;rw[hi]at ht hni;have hm:∀j,j∈A.take (k+1)↔j∈A.take k∨j=i:=fun j=>by rw[ht];simp
 refine⟨?_,?_,?_,?_,?_,?_,?_⟩
 ·refine((h.len.set i (g i+L*Wt i/V) hin).other _ _ _ (by omega)).congr fun j hj=>?_;unfold upd;by_cases e:j=i;·subst e;rw[if_pos rfl,if_pos ((hm j).2 (.inr rfl))]
  ·rw[if_neg e];dsimp only;by_cases e2:j∈A.take k;·rw[if_pos e2,if_pos ((hm j).2 (.inl e2))]
   ·rw[if_neg e2,if_neg (fun h=>by rcases(hm j).1 h with h|h;exact e2 h;exact e h)]
 ·refine((h.frac.other lb (lo+i) (Iq (g i+L*Wt i/V)) (by omega)).set i _ hin).congr fun j hj=>?_;unfold upd;by_cases e:j=i;·subst e;rw[if_pos rfl,if_pos ((hm j).2 (.inr rfl))]
  ·rw[if_neg e];dsimp only;by_cases e2:j∈A.take k;·rw[if_pos e2,if_pos ((hm j).2 (.inl e2))]
   ·rw[if_neg e2,if_neg (fun h=>by rcases(hm j).1 h with h|h;exact e2 h;exact e h)]
 ·exact(h.open_.other _ _ _ h1).other _ _ _ (by omega)
 ·exact(h.want.other _ _ _ h2).other _ _ _ (by omega)
 ·rw[World.cell?_setCell_other _ _ _ _ (fun e=>by injection e with e1 e2;omega),World.cell?_setCell_other _ _ _ _ (fun e=>by injection e with e1 e2;omega)];exact h.box
 ·simpa using h.size
 ·exact(h.bel.setCell hB1 _).setCell hB2 _
theorem DSt.below{w W W':World}{n lb lo wb wo ob oo B fb:Nat}{Mn Mx Wt g:Nat->Int}{A:List Nat}{L V:Int}{k:Nat}(h:DSt w W n lb lo wb wo ob oo B fb Mn Mx Wt g A L V k)(hb:Below W.heap.size W W')(hB:B≤fb):DSt w W' n lb lo wb wo ob oo B fb Mn Mx Wt g A L V k:=
 ⟨h.len.below hb,h.frac.below hb,h.open_.below hb,h.want.below hb,(hb.cell (p:=⟨fb+1,0,none⟩) h.size).trans h.box,Nat.lt_of_lt_of_le h.size hb.size,h.bel.trans (hb.mono (by have:=h.size;omega))⟩
theorem sumL_take{f:Nat->Int}{A:List Nat}(h:∀j∈A,0≤f j)(k:Nat):sumL f (A.take k)≤sumL f A:=by
 have e:sumL f A=sumL f (A.take k)+sumL f (A.drop k):=by rw[<-sumL_append,List.take_append_drop]
 have:0≤sumL f (A.drop k):=sumL_nonneg fun j hj=>h j (List.mem_of_mem_drop hj);omega
structure ESt(w wr:World)(n lb lo ob oo B:Nat)(h:Nat->Int)(S:List Nat)(k:Nat):Prop where
 len:FRow wr lb lo n (fun j=>if j∈S.take k then h j+1 else h j)
 open_:IRow wr ob oo (nums S)
 bel:Below B w wr
theorem ESt.next{w wr:World}{n lb lo ob oo B:Nat}{h:Nat->Int}{S:List Nat}{k:Nat}(H:ESt w wr n lb lo ob oo B h S k)(hS:S.Nodup)(hk:k<S.length)(i:Nat)(hi:S[k]?.getD 0=i)(hin:i<n)(h1:lb≠ob)(hB1:B≤lb):
 ESt w (wr.setCell ⟨lb,lo+i,none⟩ (Iq (h i+1))) n lb lo ob oo B h S (k+1):=by
 have ht:=takeN_next S k hk;have hni:=atN_notin hS hk;rw[hi]at ht hni;have hm:∀j,j∈S.take (k+1)↔j∈S.take k∨j=i:=fun j=>by rw[ht];simp
 refine⟨?_,H.open_.other _ _ _ h1,H.bel.setCell hB1 _⟩;refine(H.len.set i (h i+1) hin).congr fun j hj=>?_;unfold upd;by_cases e:j=i;·subst e;rw[if_pos rfl,if_pos ((hm j).2 (.inr rfl))]
 ·rw[if_neg e];dsimp only;by_cases e2:j∈S.take k;·rw[if_pos e2,if_pos ((hm j).2 (.inl e2))]
  ·rw[if_neg e2,if_neg (fun h=>by rcases(hm j).1 h with h|h;exact e2 h;exact e h)]
theorem info3row:(prog.info? 3).map (fun i=>(i.zero,i.size,i.bytes))=some (some (Iq 0),1,8):=by kernel_rfl
theorem dealOut_any(n lb lo lc wb wo wc ob oo oc B nq:Nat)(Mn Mx Wt g:Nat->Int)(Q:List Nat)(L V:Int)(w:World)(hl:FRow w lb lo n g)(hw:WRow w wb wo n Mn Mx Wt)(ho:IRow w ob oo (nums Q))
 (h1:lb≠ob) (h2:lb≠wb) (h3:wb≠ob) (hB1:B≤lb) (hB2:B≤ob) (hB3:B≤w.heap.size) (hQ:Q.Nodup) (hQn:∀j∈Q,j<n) (hne:Q≠[]) (hnq:Q.length=nq) (hqn1:nq≤1073741824) (hqc:nq≤oc) (hoc:oc≤maxLen)
 (hn:n≤1073741824) (hL:0≤L∧L≤1073741824) (hV:V=sumL Wt Q) (hV1:0<V∧V≤1152921504606846976) (hWt:∀j,0≤Wt j∧Wt j≤1073741824) (hg:∀j,0≤g j∧g j≤1073741824):
 Calls prog 181 #[.slice (some ⟨lb,lo,none⟩) n lc,.slice (some ⟨wb,wo,none⟩) n wc,.slice (some ⟨ob,oo,none⟩) nq oc,Iq L,Iq V] w fun e w'=>e=.returned (.tuple #[])∧
  ∃(S:List Nat) (m:Nat),S.Perm Q∧S.Pairwise (fun i k=>L*Wt k %V<L*Wt i %V∨(L*Wt i %V=L*Wt k %V∧i<k))∧(m:Int)=L-sumL (fun j=>L*Wt j/V) S∧
   FRow w' lb lo n (fun j=>if j∈S then g j+L*Wt j/V+(if j∈S.take m then 1 else 0)else g j)∧Below B w w':=by
 have CS:=qH<|
  slicesSort_any (nums Q) ob oo oc nq w ho (by rw[nums_len];exact hnq) (by omega);have HL:=qH<|hl;have HW:=qH<|hw;have HQN:=qH<|hQn;have HQ:Hid Q.Nodup:=hQ;have HV:=qH<|hV;have HWT:=qH<|hWt;have HG:=qH<|hg;have HNQ:=qH<|hnq;have hL1:=hL.1;have hL2:=hL.2;have hV2:=hV1.1;have hV3:=hV1.2;have hzl:=hl.1;have hzw:=hw.1;have hzo:=ho.1;have hmk:=run_make_row' (P:=prog) 59 3 (Iq 0) 8 underlying59 info3row rfl .i64 .i64 n (by omega) (by omega);clear hl hw ho hQn hQ hV hWt hg hnq hL hV1;go_enter func181,ntmps181;go_wp2_with fail;refine CS.mono ?_;rintro e w1 ⟨rfl,hr1,hg1⟩;obtain⟨A,hA,hAp,hAs⟩:=sorted_nums HQ;rw[hA]at hr1;have hz1:=hg1.size;have HR1:=qH<|hr1;have HL1:=qH<|HL.grown hg1 h1;have HW1:=qH<|HW.grown hg1 h3;have HB1:=qH<|(Below.refl B w).grown hg1 hB3 (fun q hq=>by injection hq with hq;omega);have HAp:=qH<|hAp;have HAs:=qH<|hAs;go_wp2;obtain⟨fb,hfb⟩:=nmd w1.heap.size;rw[hfb];have D0:Hid (DSt w ((w1.alloc (.cells (madeCells #[Iq 0] n) 3)).alloc (.cells #[Sq fb n n] 59)) n lb lo wb wo ob oo B fb Mn Mx Wt g A L V 0):=by
  have b1:Below w1.heap.size w1 ((w1.alloc (.cells (madeCells #[Iq 0] n) 3)).alloc (.cells #[Sq fb n n] 59)):=((Below.refl _ w1).alloc (Nat.le_refl _) _).alloc (by simp) _;refine⟨(HL1.below b1).congr fun j _=>by simp,?_,HR1.below b1,HW1.below b1,?_,by simp;omega,HB1.trans (b1.mono (by omega))⟩
  ·refine⟨by simp;omega,fun j hj=>⟨?_,?_⟩⟩;·rw[World.cell?_alloc_past _ _ _ (by simp;omega),World.cell?_alloc_at _ _ _ _ hfb.symm];simp[madeCells,hj,Nat.mod_one]
   ·rw[World.frozen?_alloc_past _ _ _ (by simp;omega),World.frozen?_alloc_at _ _ _ _ hfb.symm]
  ·rw[World.cell?_alloc_at _ _ _ _ (by simp;omega)];rfl
 have hlb:lb<fb:=by omega
 have hwb:wb<fb:=by omega
 have hob:ob<fb:=by omega
 have HAl:=qH<|HAp.length_eq.trans HNQ;have HAn:Hid A.Nodup:=HAp.nodup_iff.2 HQ;have HVA:=qH<|HV.trans (sumL_perm HAp.symm);have hBf:B≤fb:=by omega
 go_loopw[10,25] (fun ms i wr=>∃(k:Nat) (mi:Int),ms=Iq mi∧i=Iq k∧k≤nq∧0≤mi∧mi≤L∧Hid (mi=L-sumL (fun j=>L*Wt j/V) (A.take k))∧Hid (DSt w wr n lb lo wb wo ob oo B fb Mn Mx Wt g A L V k)) (fun _ i _=>nq-(intOf i).toNat);case atStart=>exact⟨0,L,rfl,rfl,Nat.zero_le _,by omega,by omega,by simp[Hid,sumL],D0⟩
 case round=>
  obtain⟨k,mi,rfl,rfl,hk,hm1,hm2,HM,HD⟩:=hrel;by_cases hlt:k<nq
  ·have hlt':(k:Int)<(nq:Int):=by omega
   have hd:=HD.out;have hkA:k<A.length:=by rw[HAl.out];exact hlt
   obtain⟨i,hi⟩:=nmd (A[k]?.getD 0);have hin:=HQN i (HAp.mem_iff.1 (by rw[<-hi];exact atN_mem hkA));obtain⟨x,hx⟩:=nmd (Wt i);obtain⟨gi,hgi⟩:=nmd (g i);have hxb:=HWT i;have hgb:=HG i;rw[hx]at hxb;rw[hgi]at hgb;have co:wr.cell? ⟨ob,oo+k,none⟩=some (Iq (i:Int)):=by rw[(hd.open_.2 k (by rw[nums_len];exact hkA)).1,nums_at hkA,hi]
   have cw:wr.cell? ⟨wb,wo+i*3+2,none⟩=some (Iq x):=by rw[(hd.want.2 i hin).2.2,hx]
   have hnot:i∉A.take k:=by rw[<-hi];exact atN_notin HAn hkA
   have cl1:wr.cell? ⟨lb,lo+i,none⟩=some (Iq gi):=by rw[(hd.len.2 i hin).1];dsimp only;rw[if_neg hnot,hgi]
   have fl1:=(hd.len.2 i hin).2;have cf1:wr.cell? ⟨fb,i,none⟩=some (Iq 0):=by have:=(hd.frac.2 i hin).1;dsimp only at this;rw[if_neg hnot,Nat.zero_add]at this;exact this
   have ff1:wr.frozen? ⟨fb,i,none⟩=false:=by have:=(hd.frac.2 i hin).2;rw[Nat.zero_add]at this;exact this
   have cb:=hd.box;have hsz:=hd.size;obtain⟨p,hp⟩:=nmd (L*x);have hp0:0≤p:=by rw[<-hp];exact Int.mul_nonneg hL1 hxb.1
   have hp1:p≤1152921504606846976:=by rw[<-hp];exact Int.le_trans (Int.mul_le_mul hL2 hxb.2 hxb.1 (by omega)) (by decide)
   have hx1:=hxb.1;have hx2:=hxb.2;have hg1:=hgb.1;have hg2:=hgb.2;obtain⟨q,hq⟩:=nmd (p/V);obtain⟨r,hr⟩:=nmd (p %V);have hq0:0≤q:=by rw[<-hq];exact Int.ediv_nonneg hp0 (by omega)
   have hq1:q≤p:=by rw[<-hq];exact Int.ediv_le_self _ hp0
   have hr0:0≤r:=by rw[<-hr];exact Int.emod_nonneg _ (by omega)
   have hr1:r<V:=by rw[<-hr];exact Int.emod_lt_of_pos _ hV2
   have htd:p.tdiv V=q:=by rw[Int.tdiv_eq_ediv_of_nonneg hp0,hq]
   have htm:p.tmod V=r:=by rw[Int.tmod_eq_emod_of_nonneg hp0,hr]
   have HNx:Hid (DSt w ((wr.setCell ⟨lb,lo+i,none⟩ (Iq (gi+q))).setCell ⟨fb,0+i,none⟩ (Iq r)) n lb lo wb wo ob oo B fb Mn Mx Wt g A L V (k+1)):=by have:=HD.next HAn hkA i hi hin h1 h2 hlb hob hwb hB1 hBf;rw[hgi,hx,hp,hq,hr]at this;exact this
   have HMx:Hid (mi-q=L-sumL (fun j=>L*Wt j/V) (A.take (k+1))):=by show _=_;rw[takeN_next A k hkA,sumL_snoc,hi];have:=HM.out;rw[hx,hp,hq];omega
   have hmq:0≤mi-q:=by rw[HMx.out];have t1:=sumL_take (f:=fun j=>L*Wt j/V) (A:=A) (fun j _=>Int.ediv_nonneg (Int.mul_nonneg hL1 (HWT j).1) (by omega)) (k+1);have t2:=(missing_bd (L:=L) HVA hV2).1;omega
   have w1:IntKind.i64.wrap (gi+q)=gi+q:=IntWalk.i64_in _ ⟨by omega,by omega⟩;have w2:IntKind.i64.wrap q=q:=IntWalk.i64_in _ ⟨by omega,by omega⟩;have w3:IntKind.i64.wrap r=r:=IntWalk.i64_in _ ⟨by omega,by omega⟩;have w4:IntKind.i64.wrap p=p:=IntWalk.i64_in _ ⟨by omega,by omega⟩;have hVne:V≠0:=by omega
   clear hd hxb hgb hnot hx hgi hi HM HD;go_wp2_with fail;go_big_region;go_wp2_with fail;go_big_region;go_wp2;go_roundw;case rel=>refine⟨k+1,mi-q,rfl,by go_num,by omega,by omega,by omega,HMx,?_⟩;have:=HNx.out;rw[Nat.zero_add]at this;exact this.below ⟨rfl,rfl,rfl,by simp,fun _ _=>rfl⟩ hBf
   case measure=>simp[intOf];omega
  ·have hge:¬(k:Int)<(nq:Int):=by omega
   obtain rfl:k=nq:=by omega
   have hd:=HD.out;have htk:=List.take_of_length_le (by rw[HAl.out];omega);obtain⟨fr,hfr⟩:∃fr:Nat->Int,(fun j=>if j∈A.take k then L*Wt j %V else 0)=fr:=⟨_,rfl⟩;obtain⟨hh,hhh⟩:∃hh:Nat->Int,(fun j=>if j∈A.take k then g j+L*Wt j/V else g j)=hh:=⟨_,rfl⟩;have hlen:=hd.len;have hfrac:=hd.frac;rw[hhh]at hlen;rw[hfr]at hfrac;have hF:∀j,j<n->((List.range n).map fr)[j]?.getD 0=fr j:=fun j hj=>by simp[hj]
   have hFl:((List.range n).map fr).length=n:=by simp
   have hsA:=fun j hj=>HQN j (HAp.mem_iff.1 hj);have HS:Hid (Calls prog 192 #[.slice (some ⟨ob,oo,none⟩) k oc,.func (.func 196) #[] #[Pq (fb+1)]] wr fun e w'=>e=.returned (.tuple #[])∧Sorted wr w' ob oo (RFrac (fun x=>((List.range n).map fr)[x.toNat]?.getD 0)) [] (nums A) []):=by
    refine sortStable_any 196 #[Pq (fb+1)] (enters_of func196 (by kernel_rfl) rfl) (fun i k=>cmpI (((List.range n).map fr)[k.toNat]?.getD 0) (((List.range n).map fr)[i.toNat]?.getD 0)) (nums A) (RFrac (fun x=>((List.range n).map fr)[x.toNat]?.getD 0)) (ord_frac _ _) wr ob oo oc ?_ (nums A) wr k (grown_refl _ _) hd.open_ (fun x hx=>hx) (nums_asc HAs) (by rw[nums_len];exact HAl) (by omega);refine cmpG_frac _ (fb+1) fb 0 n ob wr (by rw[hFl];exact hd.box) (fun j hj=>?_) _ ?_ (by omega) (by omega) (by omega);·rw[hFl]at hj;rw[hF j hj];exact(hfrac.2 j hj).1
    ·intro x hx;obtain⟨j,rfl,hj⟩:=nums_mem hx;exact⟨j,rfl,by rw[hFl];exact hsA j hj⟩
   have HFin:Hid (∀w2,Sorted wr w2 ob oo (RFrac (fun x=>((List.range n).map fr)[x.toNat]?.getD 0)) [] (nums A) []->∃S:List Nat,S.Perm A∧S.Pairwise (fun i k=>L*Wt k %V<L*Wt i %V∨(L*Wt i %V=L*Wt k %V∧i<k))∧ESt w w2 n lb lo ob oo B hh S 0∧wr.heap.size≤w2.heap.size):=by
    rintro w2 ⟨⟨M,hp,hpw,hr2⟩,hgr⟩;obtain⟨S,rfl,hs⟩:=nums_perm hp;refine⟨S,hs,?_,⟨?_,by simpa using hr2,?_⟩,hgr.size⟩
    ·unfold nums at hpw;rw[List.pairwise_map]at hpw;refine List.Pairwise.imp_of_mem ?_ hpw;intro i j hi hj h;have hiA:=hs.mem_iff.1 hi;have hjA:=hs.mem_iff.1 hj;simp only[RFrac,Int.toNat_natCast,hF i (hsA i hiA),hF j (hsA j hjA)]at h;rw[<-hfr]at h;dsimp only at h;rw[htk,if_pos hiA,if_pos hjA]at h;rcases h with h|⟨h,h'⟩;·exact .inl h
     ·exact .inr ⟨h,by omega⟩
    ·exact(hlen.grown hgr h1).congr fun j _=>by simp
    ·exact hd.bel.grown hgr (by have:=hd.size;omega) (fun q hq=>by injection hq with hq;omega)
   obtain⟨m,hm⟩:∃m:Nat,mi=(m:Int):=⟨mi.toNat,by omega⟩;subst hm;have hmq:(m:Int)<(k:Int):=by have:=(missing_bd (L:=L) HVA hV2).2;have e:=HM.out;rw[htk]at e;rw[<-e,HAl.out]at this;omega
   have HMA:Hid ((m:Int)=L-sumL (fun j=>L*Wt j/V) A):=by have:=HM.out;rw[htk]at this;exact this
   have HHH:Hid (∀j,hh j=if j∈A then g j+L*Wt j/V else g j):=fun j=>by rw[<-hhh];dsimp only;rw[htk]
   have hhb:Hid (∀j,0≤hh j∧hh j≤2305843009213693952):=fun j=>by rw[HHH j];have a1:=HG j;have a2:=HWT j;have a3:=Int.mul_nonneg hL1 a2.1;have a4:L*Wt j≤1152921504606846976:=Int.le_trans (Int.mul_le_mul hL2 a2.2 a2.1 (by omega)) (by decide);have a5:0≤L*Wt j/V:=Int.ediv_nonneg a3 (by omega);have a6:L*Wt j/V≤L*Wt j:=Int.ediv_le_self _ a3;split<;>omega
   have hsz:=hd.size;have hmc:(m:Int)≤(oc:Int):=by omega
   clear hd hlen hfrac hhh hfr htk hF hFl HM HD;go_wp2_with fail;refine HS.mono ?_;rintro e w2 ⟨rfl,hS⟩;obtain⟨S,hS1,hS2,hS3,hS4⟩:=HFin w2 hS;have HSp:=qH<|hS1;have HSs:=qH<|hS2;have HE:=qH<|hS3;clear hS hS1 hS2 hS3 HFin HS;go_wp2;go_loopw[64] (fun i wr=>∃c:Nat,i=Iq c∧c≤m∧Hid (ESt w wr n lb lo ob oo B hh S c)) (fun i _=>m-(intOf i).toNat);case atStart=>exact⟨0,rfl,Nat.zero_le _,HE⟩
   case round=>
    obtain⟨c,rfl,hc,HEc⟩:=hrel;have hSl:=HSp.length_eq.trans HAl;by_cases hlt:c<m
    ·have hlt':(c:Int)<(m:Int):=by omega
     have hd:=HEc.out;have hcS:c<S.length:=by omega
     obtain⟨i,hi⟩:=nmd (S[c]?.getD 0);have hin:i<n:=by have:=atN_mem hcS;rw[hi]at this;exact HQN i (HAp.mem_iff.1 (HSp.mem_iff.1 this))
     have hin':(i:Int)<(n:Int):=by omega
     have hSn:=HSp.nodup_iff.2 HAn;have co:wr.cell? ⟨ob,oo+c,none⟩=some (Iq (i:Int)):=by rw[(hd.open_.2 c (by rw[nums_len];exact hcS)).1,nums_at hcS,hi]
     obtain⟨y,hy⟩:=nmd (hh i);have hyb:=hhb i;rw[hy]at hyb;have hy1:=hyb.1;have hy2:=hyb.2;have hnot:i∉S.take c:=by rw[<-hi];exact atN_notin hSn hcS
     have cl1:wr.cell? ⟨lb,lo+i,none⟩=some (Iq y):=by rw[(hd.len.2 i hin).1];dsimp only;rw[if_neg hnot,hy]
     have fl1:=(hd.len.2 i hin).2;have HNx:Hid (ESt w (wr.setCell ⟨lb,lo+i,none⟩ (Iq (y+1))) n lb lo ob oo B hh S (c+1)):=by have:=hd.next hSn hcS i hi hin h1 hB1;rw[hy]at this;exact this
     clear hd hyb hnot hi hy hSn hSl HEc;go_wp2;go_roundw;case rel=>exact⟨c+1,by go_num,by omega,HNx⟩
     case measure=>simp[intOf];omega
    ·have hge:¬(c:Int)<(m:Int):=by omega
     obtain rfl:c=m:=by omega
     have HZ:Hid (∃(S:List Nat) (m:Nat),S.Perm Q∧S.Pairwise (fun i k=>L*Wt k %V<L*Wt i %V∨(L*Wt i %V=L*Wt k %V∧i<k))∧(m:Int)=L-sumL (fun j=>L*Wt j/V) S∧
      FRow wr lb lo n (fun j=>if j∈S then g j+L*Wt j/V+(if j∈S.take m then 1 else 0)else g j)∧Below B w wr):=by
      refine⟨S,c,HSp.trans HAp,HSs,HMA.trans (by rw[sumL_perm HSp.out]),HEc.len.congr fun j hj=>?_,HEc.bel⟩;have hh1:=HHH j;have hmem:j∈S↔j∈A:=HSp.mem_iff;by_cases e:j∈S;·rw[if_pos (hmem.1 e)]at hh1;rw[if_pos e,hh1];split<;>omega
      ·rw[if_neg (fun h=>e (hmem.2 h))]at hh1;rw[if_neg e,if_neg (fun h=>e (List.mem_of_mem_take h)),hh1]
     clear hSl HEc;go_wp2;go_end0;obtain⟨S',m',z1,z2,z3,z4,z5⟩:=HZ.out;exact⟨rfl,S',z1,z2,m',z3,z4,z5⟩
end
section
open Go.RowKit Go.Sort Go.Proofs.Tryz
structure PSt(w wr:World)(n lb lo wb wo g B:Nat)(Mn Mx Wt:Nat->Int)(Q:List Nat)(c:Nat):Prop where
 len:FRow wr lb lo n (fun j=>if j∈Q.take c then Mx j else Mn j)
 want:WRow wr wb wo n Mn Mx Wt
 open_:IRow wr g 0 (nums Q)
 bel:Below B w wr
theorem PSt.below{w W W':World}{n lb lo wb wo g B:Nat}{Mn Mx Wt:Nat->Int}{Q:List Nat}{c:Nat}(h:PSt w W n lb lo wb wo g B Mn Mx Wt Q c)(hb:Below W.heap.size W W')(hB:B≤w.heap.size):PSt w W' n lb lo wb wo g B Mn Mx Wt Q c:=
 ⟨h.len.below hb,h.want.below hb,h.open_.below hb,h.bel.trans (hb.mono (Nat.le_trans hB h.bel.size))⟩
theorem PSt.next{w wr:World}{n lb lo wb wo g B:Nat}{Mn Mx Wt:Nat->Int}{Q:List Nat}{c:Nat}(H:PSt w wr n lb lo wb wo g B Mn Mx Wt Q c)(hQ:Q.Nodup)(hk:c<Q.length)(i:Nat)(hi:Q[c]?.getD 0=i)(hin:i<n)(h1:lb≠g)(h2:lb≠wb)(hB1:B≤lb):
 PSt w (wr.setCell ⟨lb,lo+i,none⟩ (Iq (Mx i))) n lb lo wb wo g B Mn Mx Wt Q (c+1):=by
 have ht:=takeN_next Q c hk;have hni:=atN_notin hQ hk;rw[hi]at ht hni;have hm:∀j,j∈Q.take (c+1)↔j∈Q.take c∨j=i:=fun j=>by rw[ht];simp
 refine⟨?_,H.want.other _ _ _ h2,H.open_.other _ _ _ h1,H.bel.setCell hB1 _⟩;refine(H.len.set i (Mx i) hin).congr fun j hj=>?_;unfold upd;by_cases e:j=i;·subst e;rw[if_pos rfl,if_pos ((hm j).2 (.inr rfl))]
 ·rw[if_neg e];dsimp only;by_cases e2:j∈Q.take c;·rw[if_pos e2,if_pos ((hm j).2 (.inl e2))]
  ·rw[if_neg e2,if_neg (fun h=>by rcases(hm j).1 h with h|h;exact e2 h;exact e h)]
structure PNum(Mn Mx Wt:Nat->Int)(Q:List Nat)(L0:Int)(c:Nat)(L V:Int):Prop where
 left:L=L0-sumL (fun j=>Mx j-Mn j) (Q.take c)
 pos:0≤L
 weight:V=sumL Wt (Q.drop c)
 full:∀j∈Q.take c,(Mx j-Mn j)*V≤L*Wt j
theorem dropN_next(A:List Nat)(k:Nat)(hk:k<A.length):A.drop k=(A[k]?.getD 0)::A.drop (k+1):=by rw[List.getElem?_eq_getElem hk];exact List.drop_eq_getElem_cons hk
theorem split_at{R:Nat->Nat->Prop}{Q:List Nat}(h:Q.Pairwise R){c:Nat}(hc:c<Q.length):(∀j∈Q.take c,R j (Q[c]?.getD 0))∧(∀k∈Q.drop (c+1),R (Q[c]?.getD 0) k):=by
 have e:Q=Q.take c++((Q[c]?.getD 0)::Q.drop (c+1)):=by rw[<-dropN_next Q c hc,List.take_append_drop]
 have h':(Q.take c++((Q[c]?.getD 0)::Q.drop (c+1))).Pairwise R:=by rw[<-e];exact h
 rw[List.pairwise_append]at h';refine⟨fun j hj=>h'.2.2 j hj _ (by simp),?_⟩;exact(List.pairwise_cons.1 h'.2.1).1
theorem PNum.next{Mn Mx Wt:Nat->Int}{Q:List Nat}{L0:Int}{c:Nat}{L V:Int}(h:PNum Mn Mx Wt Q L0 c L V)(hm:∀j,0≤Mx j-Mn j)(hs:Q.Pairwise (RFl Mn Mx Wt))(hw:∀j∈Q,0<Wt j)(hc:c<Q.length)(i:Nat)(hi:Q[c]?.getD 0=i)(hle:(Mx i-Mn i)*V≤L*Wt i):PNum Mn Mx Wt Q L0 (c+1) (L-(Mx i-Mn i)) (V-Wt i):=by
 have h1:=split_at hs hc;rw[hi]at h1;have hd:=dropN_next Q c hc;rw[hi]at hd;have ht:=takeN_next Q c hc;rw[hi]at ht;have hwi:=hw i (by rw[<-hi];exact atN_mem hc);have hV:V=sumL Wt (i::Q.drop (c+1)):=by rw[<-hd];exact h.weight
 have:=full_next (A:=Q.take c) (B:=Q.drop (c+1)) (i:=i) (L:=L) (W:=V) hm (fun j hj=>⟨hw j (List.mem_of_mem_take hj),h1.1 j hj⟩) hwi (fun j hj=>hw j (List.mem_of_mem_drop hj)) hV hle;refine⟨?_,this.1,?_,?_⟩;·have e:=h.left;rw[ht,sumL_snoc];omega
 ·rw[sumL_cons]at hV;omega
 ·rw[ht];exact this.2
theorem PNum.stop{Mn Mx Wt:Nat->Int}{Q:List Nat}{L0:Int}{c:Nat}{L V:Int}(h:PNum Mn Mx Wt Q L0 c L V)(hs:Q.Pairwise (RFl Mn Mx Wt))(hw:∀j∈Q,0<Wt j)(hc:c<Q.length)(i:Nat)(hi:Q[c]?.getD 0=i)(hgt:L*Wt i<(Mx i-Mn i)*V):0<V∧∀k∈Q.drop c,L*Wt k<(Mx k-Mn k)*V:=by
 have h1:=split_at hs hc;rw[hi]at h1;have hd:=dropN_next Q c hc;rw[hi]at hd;have hwi:=hw i (by rw[<-hi];exact atN_mem hc);have hV:V=Wt i+sumL Wt (Q.drop (c+1)):=by rw[<-sumL_cons,<-hd];exact h.weight
 have h0:0≤sumL Wt (Q.drop (c+1)):=sumL_nonneg fun j hj=>Int.le_of_lt (hw j (List.mem_of_mem_drop hj));refine⟨by omega,?_⟩;rw[hd];exact none_full hwi (by omega) (fun k hk=>⟨hw k (List.mem_of_mem_drop hk),h1.2 k hk⟩) hgt
theorem PNum.poured_all{Mn Mx Wt:Nat->Int}{Q:List Nat}{n:Nat}{r L V:Int}(h:PNum Mn Mx Wt Q (r-sumL Mn (List.range n)) Q.length L V)(hp:Q.Perm (heavy Wt n)):Poured n Mn Mx Wt r (fun j=>if j∈Q then Mx j else Mn j) Q [] L V 0:=by
 have e:Q.take Q.length=Q:=List.take_length;refine⟨by rw[List.append_nil];exact hp,?_,h.pos,by have:=h.weight;simpa using this,by have:=h.full;rwa[e]at this,by simp,fun h=>(h rfl).elim,fun _=>rfl,List.Pairwise.nil,fun j hj=>?_⟩;·have:=h.left;rw[e]at this;exact this
 ·by_cases e:j∈Q<;>simp[e]
theorem PNum.poured_some{Mn Mx Wt:Nat->Int}{Q:List Nat}{n c:Nat}{r L V:Int}(h:PNum Mn Mx Wt Q (r-sumL Mn (List.range n)) c L V)(hp:Q.Perm (heavy Wt n))(S:List Nat)(m:Nat)(hS:S.Perm (Q.drop c))(ho:∀k∈Q.drop c,L*Wt k<(Mx k-Mn k)*V)(hne:Q.drop c≠[])(hm:(m:Int)=L-sumL (fun j=>L*Wt j/V) S)
 (hs:S.Pairwise (fun i k=>L*Wt k %V<L*Wt i %V∨(L*Wt i %V=L*Wt k %V∧i<k))):
 Poured n Mn Mx Wt r (fun j=>if j∈S then(if j∈Q.take c then Mx j else Mn j)+L*Wt j/V+(if j∈S.take m then 1 else 0)else(if j∈Q.take c then Mx j else Mn j)) (Q.take c) S L V m:=by
 have hpp:(Q.take c++S).Perm Q:=by
  conv=>rhs;rw[<-List.take_append_drop c Q]
  exact List.Perm.append_left _ hS
 have hnd:=hp.nodup_iff.2 (List.nodup_range.filter _);have hdis:∀j∈Q.take c,j∉S:=fun j h1 h2=>by have:=hpp.nodup_iff.2 hnd;rw[List.nodup_append]at this;exact this.2.2 j h1 j h2 rfl
 refine⟨hpp.trans hp,h.left,h.pos,h.weight.trans (sumL_perm hS.symm),h.full,fun j hj=>ho j (hS.mem_iff.1 hj),fun _=>hm,fun e=>(hne (by rw[e]at hS;exact hS.symm.eq_nil)).elim,hs,fun j hj=>?_⟩;by_cases e:j∈Q.take c;·rw[if_neg (hdis j e),if_pos e,if_pos e]
 ·rw[if_neg e,if_neg e]
def PourOut(w w':World)(n lb lo B:Nat)(Mn Mx Wt:Nat->Int)(r:Int):Prop:=
 ∃(a:Nat->Int) (A S:List Nat) (L V:Int) (m:Nat),Poured n Mn Mx Wt r a A S L V m∧FRow w' lb lo n a∧Below B w w'
def slenOfV:Value->Nat
 |.slice _ n _=>n
 |_=>0
theorem pour_any(n lb lo lc wb wo wc B:Nat)(Mn Mx Wt:Nat->Int)(r L0:Int)(w:World)(hl:FRow w lb lo n Mn)(hw:WRow w wb wo n Mn Mx Wt)(h2:lb≠wb)(hB1:B≤lb)(hB3:B≤w.heap.size)(hn:n≤1048576)
    (hM:∀j,0≤Mn j∧Mn j≤Mx j∧Mx j≤1048576∧0≤Wt j∧Wt j≤1048576) (hL:L0=r-sumL Mn (List.range n)) (hL0:0≤L0∧L0≤1073741824):
    Calls prog 164 #[.slice (some ⟨lb,lo,none⟩) n lc,.slice (some ⟨wb,wo,none⟩) n wc,Iq L0] w fun e w'=>e=.returned (.tuple #[])∧PourOut w w' n lb lo B Mn Mx Wt r:=by
  have CO:=qH<|
    order_any n wb wo wc Mn Mx Wt w hw (fun j=>by have:=hM j;omega) (by omega);have HL:=qH<|hl;have HW:=qH<|hw;have HM:=qH<|hM;have HLe:=qH<|hL;have hzl:=hl.1;have hzw:=hw.1;have hL1:=hL0.1;have hL2:=hL0.2;clear hl hw hM hL hL0;go_enter func164,ntmps164;go_wp2_with fail;refine CO.mono ?_;rintro e w1 ⟨v,Q,rfl,hO,hp,hs,hb⟩;have HP:=qH<|hp;have HS:=qH<|hs;have HL1:=qH<|HL.below hb;have HW1:=qH<|HW.below hb;have HB1:=qH<|hb.mono hB3;have HQn:Hid (∀j∈Q,j<n∧0<Wt j):=fun j hj=>heavy_mem (hp.mem_iff.1 hj);have HQd:Hid Q.Nodup:=hp.nodup_iff.2 (List.nodup_range.filter _);rcases hO with⟨hq,rfl⟩|⟨hne,g,cp,rfl,hgB,hqc,hcm,hro⟩
  · have HZ:Hid (PourOut w w1 n lb lo B Mn Mx Wt r):=by
      refine⟨_,Q,[],L0,0,0,PNum.poured_all ⟨?_,hL1,?_,?_⟩ HP,HL1.congr fun j _=>by simp[hq],HB1⟩;·rw[hq];simp[sumL];exact HLe
      ·rw[hq];rfl
      ·rw[hq];simp
    go_wp2;go_loop[7,16] (fun t i=>t=Iq 0∧i=Iq 0) (fun _ _=>0);case atStart=>exact⟨rfl,rfl⟩
    case round=>
      obtain⟨rfl,rfl⟩:=hrel;go_wp2;go_loop[2,6,7] (fun t o v=>t=Iq L0∧o=.slice none 0 0∧v=Iq 0) (fun _ _ _=>0);case atStart=>exact⟨rfl,rfl,rfl⟩
      case round=>obtain⟨rfl,rfl,rfl⟩:=hrel;go_wp2;go_end0;exact⟨rfl,HZ⟩
  · obtain⟨nq,hnq⟩:=nmd Q.length;have HNQ:=qH<|hnq;have HRo:=qH<|hro;have hqn:nq≤n:=by have:=HP.length_eq;have:=heavy_len Wt n;omega
    rw[hnq]at hqc⊢;have hlg:lb≠g:=by omega
    have hwg:wb≠g:=by omega
    have hBg:B≤g:=by omega
    go_wp2;go_loop[7,16] (fun t i=>∃(k:Nat) (s:Int),t=Iq s∧i=Iq k∧k≤nq∧0≤s∧s≤(k:Int)*1048576∧Hid (s=sumL Wt (Q.take k))) (fun _ i=>nq-(intOf i).toNat);case atStart=>exact⟨0,0,rfl,rfl,Nat.zero_le _,by omega,by omega,by simp[Hid,sumL]⟩
    case round=>
      obtain⟨k,s,rfl,rfl,hk,hs0,hs1,HSm⟩:=hrel;by_cases hlt:k<nq
      · have hlt':(k:Int)<(nq:Int):=by omega
        have hkQ:k<Q.length:=by rw[HNQ.out];exact hlt
        obtain⟨i,hi⟩:=nmd (Q[k]?.getD 0);have hin:=(HQn i (by rw[<-hi];exact atN_mem hkQ)).1;obtain⟨x,hx⟩:=nmd (Wt i);have hxb:=HM i;rw[hx]at hxb;have hx1:=hxb.2.2.2.1;have hx2:=hxb.2.2.2.2;have co:w1.cell? ⟨g,k,none⟩=some (Iq (i:Int)):=by have:=(HRo.2 k (by rw[nums_len];exact hkQ)).1;rw[nums_at hkQ,hi,Nat.zero_add]at this;exact this
        have cw:w1.cell? ⟨wb,wo+i*3+2,none⟩=some (Iq x):=by rw[(HW1.2 i hin).2.2,hx]
        have HSx:Hid (s+x=sumL Wt (Q.take (k+1))):=by show _=_;rw[takeN_next Q k hkQ,sumL_snoc,hi,hx,HSm.out]
        have hk1:((k+1:Nat):Int)*1048576=(k:Int)*1048576+1048576:=by omega
        clear hxb hi hx HSm;go_wp2;go_round;case rel=>exact⟨k+1,s+x,rfl,by go_num,by omega,by omega,by omega,HSx⟩
        case measure=>simp[intOf];omega
      · have hge:¬(k:Int)<(nq:Int):=by omega
        obtain rfl:nq=k:=by omega
        have N0:Hid (PNum Mn Mx Wt Q (r-sumL Mn (List.range n)) 0 L0 s):=by refine⟨by simp[sumL];exact HLe,hL1,?_,by simp⟩;rw[HSm.out,List.take_of_length_le (by rw[HNQ.out];omega),List.drop_zero]
        have P0:Hid (PSt w w1 n lb lo wb wo g B Mn Mx Wt Q 0):=⟨HL1.congr fun j _=>by simp,HW1,HRo,HB1⟩;clear HSm HL1 HW1 HRo HB1;go_wp2;have hnq40:(nq:Int)*1048576≤1099511627776:=by omega
        go_loopw[2,6,7] (fun l o v wr=>∃(c:Nat) (L V:Int) (p:Option Addr) (d e:Nat),l=Iq L∧o=.slice p d e∧v=Iq V∧c+d=nq∧c+e=cp∧0≤L∧L≤L0∧0≤V∧V≤1099511627776∧Hid (0<d->p=some ⟨g,c,none⟩)∧Hid (PNum Mn Mx Wt Q (r-sumL Mn (List.range n)) c L V)∧Hid (PSt w wr n lb lo wb wo g B Mn Mx Wt Q c)) (fun _ o _ _=>slenOfV o);case atStart=>exact⟨0,L0,s,_,nq,cp,rfl,rfl,rfl,by omega,by omega,hL1,by omega,hs0,by omega,fun _=>rfl,N0,P0⟩
        case round=>
          obtain⟨c,L,V,p,d,e,rfl,rfl,rfl,hcd,hce,hL3,hL4,hV3,hV4,HPp,HN,HPS⟩:=hrel;by_cases hd:0<d
          · have hd':(0:Int)<(d:Int):=by omega
            obtain rfl:=HPp hd;have hps:=HPS.out;have hcQ:c<Q.length:=by rw[HNQ.out];omega
            obtain⟨i,hi⟩:=nmd (Q[c]?.getD 0);have hiQ:i∈Q:=by rw[<-hi];exact atN_mem hcQ
            have hin:=(HQn i hiQ).1;have hin':(i:Int)<(n:Int):=by omega
            obtain⟨x,hx⟩:=nmd (Wt i);obtain⟨mn,hmn⟩:=nmd (Mn i);obtain⟨mx,hmx⟩:=nmd (Mx i);have hxb:=HM i;rw[hx,hmn,hmx]at hxb;obtain⟨hb1,hb2,hb3,hb4,hb5⟩:=hxb;have co:wr.cell? ⟨g,c,none⟩=some (Iq (i:Int)):=by have:=(hps.open_.2 c (by rw[nums_len];exact hcQ)).1;rw[nums_at hcQ,hi,Nat.zero_add]at this;exact this
            have cw0:wr.cell? ⟨wb,wo+i*3,none⟩=some (Iq mn):=by rw[(hps.want.2 i hin).1,hmn]
            have cw1:wr.cell? ⟨wb,wo+i*3+1,none⟩=some (Iq mx):=by rw[(hps.want.2 i hin).2.1,hmx]
            have cw2:wr.cell? ⟨wb,wo+i*3+2,none⟩=some (Iq x):=by rw[(hps.want.2 i hin).2.2,hx]
            have hnot:i∉Q.take c:=by rw[<-hi];exact atN_notin HQd hcQ
            have cl1:wr.cell? ⟨lb,lo+i,none⟩=some (Iq mn):=by rw[(hps.len.2 i hin).1];dsimp only;rw[if_neg hnot,hmn]
            have fl1:=(hps.len.2 i hin).2;obtain⟨df,hdf⟩:=nmd (mx-mn);have hdf0:0≤df:=by omega
            have hdf1:df≤1048576:=by omega
            obtain⟨pv,hpv⟩:=nmd (df*V);have hpv0:0≤pv:=by rw[<-hpv];exact Int.mul_nonneg hdf0 hV3
            have hpv1:pv≤1152921504606846976:=by rw[<-hpv];exact Int.le_trans (Int.mul_le_mul hdf1 hV4 hV3 (by omega)) (by decide)
            obtain⟨lx,hlx⟩:=nmd (L*x);have hlx0:0≤lx:=by rw[<-hlx];exact Int.mul_nonneg hL3 hb4
            have hlx1:lx≤1125899906842624:=by rw[<-hlx];exact Int.le_trans (Int.mul_le_mul (show L≤1073741824 by omega) hb5 hb4 (by omega)) (by decide)
            have wdf:IntKind.i64.wrap df=df:=IntWalk.i64_in _ ⟨by omega,by omega⟩;by_cases hgt:lx<pv
            · have hst:=HN.stop HS (fun j hj=>(HQn j hj).2) hcQ i hi (by rw[hx,hmx,hmn,hdf,hpv,hlx];exact hgt);have hV0:=hst.1;have hP2:=hps.below (W':=wr.drew) ⟨rfl,rfl,rfl,Nat.le_refl _,fun _ _=>rfl⟩ hB3;have hdl:(Q.drop c).length=d:=by rw[List.length_drop,HNQ.out];omega
              have CD:Hid (Calls prog 181 #[.slice (some ⟨lb,lo,none⟩) n lc,.slice (some ⟨wb,wo,none⟩) n wc,.slice (some ⟨g,c,none⟩) d e,Iq L,Iq V] wr.drew fun e w'=>e=.returned (.tuple #[])∧
                  ∃(S:List Nat) (m:Nat),S.Perm (Q.drop c)∧S.Pairwise (fun i k=>L*Wt k %V<L*Wt i %V∨(L*Wt i %V=L*Wt k %V∧i<k))∧(m:Int)=L-sumL (fun j=>L*Wt j/V) S∧
                    FRow w' lb lo n (fun j=>if j∈S then(if j∈Q.take c then Mx j else Mn j)+L*Wt j/V+(if j∈S.take m then 1 else 0)else(if j∈Q.take c then Mx j else Mn j))∧Below B wr.drew w'):=by
                refine dealOut_any n lb lo lc wb wo wc g c e B d Mn Mx Wt _ (Q.drop c) L V wr.drew hP2.len hP2.want ?_ hlg h2 hwg hB1 hBg (Nat.le_trans hB3 hP2.bel.size) (HQd.sublist (List.drop_sublist _ _)) (fun j hj=>(HQn j (List.mem_of_mem_drop hj)).1) (by intro h;rw[h]at hdl;simp at hdl;omega) hdl (by omega) (by omega) (by omega) (by omega) ⟨hL3,by omega⟩ HN.weight ⟨hV0,by omega⟩ (fun j=>by have:=HM j;omega) (fun j=>by have:=HM j;split<;>omega);refine⟨hP2.open_.1,fun j hj=>?_⟩;rw[nums_len,hdl]at hj;have h1:=hP2.open_.2 (c+j) (by rw[nums_len,HNQ.out];omega);rw[Nat.zero_add]at h1;refine⟨h1.1.trans ?_,h1.2⟩;have e1:nums (Q.drop c)=(nums Q).drop c:=by unfold nums;rw[List.map_drop]
                rw[e1,List.getElem?_drop]
              have HZ:Hid (∀w2,(∃(S:List Nat) (m:Nat),S.Perm (Q.drop c)∧S.Pairwise (fun i k=>L*Wt k %V<L*Wt i %V∨(L*Wt i %V=L*Wt k %V∧i<k))∧(m:Int)=L-sumL (fun j=>L*Wt j/V) S∧
                    FRow w2 lb lo n (fun j=>if j∈S then(if j∈Q.take c then Mx j else Mn j)+L*Wt j/V+(if j∈S.take m then 1 else 0)else(if j∈Q.take c then Mx j else Mn j))∧Below B wr.drew w2)->PourOut w w2 n lb lo B Mn Mx Wt r):=by rintro w2 ⟨S,m,q1,q2,q3,q4,q5⟩;exact⟨_,Q.take c,S,L,V,m,HN.poured_some HP S m q1 hst.2 (by intro h;rw[h]at hdl;simp at hdl;omega) q3 q2,q4,hP2.bel.trans q5⟩
              clear hst hP2 hdl hps hnot hi hx hmn hmx HN HPS;go_wp2_with fail;go_big_region;go_wp2_with fail;refine CD.mono ?_;rintro e2 w2 ⟨rfl,hq⟩;have HF:=qH<|HZ w2 hq;clear hq HZ;go_wp2;go_end0;exact⟨rfl,HF⟩
            · have hNx:=HN.next (fun j=>by have:=HM j;omega) HS (fun j hj=>(HQn j hj).2) hcQ i hi (by rw[hx,hmx,hmn,hdf,hpv,hlx];omega);rw[hx,hmx,hmn,hdf]at hNx;have HNx:=qH<|hNx;have hLd:=hNx.pos;have hVx:0≤V-x:=by rw[hNx.weight];exact sumL_nonneg fun j _=>(HM j).2.2.2.1
              have HPx:Hid (PSt w (wr.setCell ⟨lb,lo+i,none⟩ (Iq (mn+df))) n lb lo wb wo g B Mn Mx Wt Q (c+1)):=by
                have:=hps.next HQd hcQ i hi hin hlg h2 hB1;rw[hmx]at this;have e:mn+df=mx:=by omega
                rw[e];exact this
              have hgt':¬pv>lx:=by omega
              have hde:(1:Int)≤(e:Int):=by omega
              have hdd:(1:Int)≤(d:Int):=by omega
              clear hNx hps hnot hi hx hmn hmx HN HPS;go_wp2_with fail;go_big_region;go_wp2_with fail;refine⟨⟨c+1,L-df,V-x,_,d-1,e-1,rfl,rfl,rfl,by omega,by omega,hLd,by omega,hVx,by omega,?_,HNx,?_⟩,?_⟩;·intro h;rw[if_neg (by omega)]
              ·exact HPx.below ⟨rfl,rfl,rfl,Nat.le_refl _,fun _ _=>rfl⟩ hB3
              ·show d-1<d;omega
          · obtain rfl:d=0:=by omega
            have hcl:c=Q.length:=by rw[HNQ.out];omega
            have HF:Hid (PourOut w wr n lb lo B Mn Mx Wt r):=by have h1:=HN.out;have h2:=HPS.len;rw[hcl]at h1 h2;exact⟨_,Q,[],L,V,0,h1.poured_all HP,h2.congr fun j _=>by rw[List.take_length],HPS.bel⟩
            clear hcl HN HPS;go_wp2;go_end0;exact⟨rfl,HF⟩
end
section
open Go.RowKit Go.Sort Go.Proofs.Tryz
def rm(room gap:Int)(n:Nat):Int:=max 0 (cl room-cl gap*((n:Int)-1))
theorem rm_nonneg(room gap:Int)(n:Nat):0≤rm room gap n:=by unfold rm;omega
theorem rm_le(room gap:Int)(n:Nat)(hn:0<n):rm room gap n≤100000:=by have h1:=cl_bd room;have h2:0≤cl gap*((n:Int)-1):=Int.mul_nonneg (cl_bd gap).1 (by omega);unfold rm;omega
structure Back(n:Nat)(mn:Nat->Int)(r:Int)(g:Nat->Int):Prop where
 bd:∀j,j<n->0≤g j∧g j≤mn j
 sum:sumL g (List.range n)=r
 behind:∀i k,i<k->k<n->g i<mn i->g k=0
def SplitIs(n:Nat)(mn mx wt:Nat->Int)(r:Int)(g:Nat->Int):Prop:=
 (r<sumL mn (List.range n)∧Back n mn r g)∨(sumL mn (List.range n)≤r∧∃(A S:List Nat) (L V:Int) (m:Nat),Poured n mn mx wt r g A S L V m)
theorem rangeL(n:Nat)(f:Nat->Int)(j:Nat)(hj:j<n):((List.range n).map f)[j]?.getD 0=f j:=by simp[hj]
theorem rangeL_len(n:Nat)(f:Nat->Int):((List.range n).map f).length=n:=by simp
theorem FRow.irow{W:World}{blk off n:Nat}{g:Nat->Int}(h:FRow W blk off n g):IRow W blk off ((List.range n).map g):=
 ⟨h.1,fun j hj=>by rw[rangeL_len]at hj;rw[rangeL n g j hj];exact h.2 j hj⟩
theorem IRow.frow{W:World}{blk off n:Nat}{d:List Int}(h:IRow W blk off d)(hn:d.length=n):FRow W blk off n (fun j=>d[j]?.getD 0):=
 ⟨h.1,fun j hj=>h.2 j (by omega)⟩
theorem sum_range(d:List Int):sumL (fun j=>d[j]?.getD 0) (List.range d.length)=d.sum:=by unfold sumL;congr 1;refine List.ext_getElem (by simp) fun j h1 h2=>?_;simp[List.getElem?_eq_getElem h2]
theorem back_of(n:Nat)(mn:Nat->Int)(hm:∀j,0≤mn j)(r much:Int)(hr:0≤r)(h:much=sumL mn (List.range n)-r)(h0:0≤much):Back n mn r (fun j=>(gb ((List.range n).map mn) n much [])[j]?.getD 0)∧(gb ((List.range n).map mn) n much []).length=n:=by
 have hl:=rangeL_len n mn;have hs:((List.range n).map mn).sum=sumL mn (List.range n):=rfl;have ht:((List.range n).map mn).take n=(List.range n).map mn:=List.take_of_length_le (by omega);obtain⟨X,e,xl,xb,xs,xk,_⟩:=gb_facts ((List.range n).map mn) (fun i hi=>by rw[hl]at hi;rw[rangeL n mn i hi];exact hm i) n much [] (by omega) h0 (by rw[ht,hs];omega);rw[List.append_nil]at e;rw[e];refine⟨⟨fun j hj=>?_,?_,fun i k hik hk hlt=>?_⟩,xl⟩;·have:=xb j hj;rw[rangeL n mn j hj]at this;exact this
 ·have:=sum_range X;rw[xl]at this;rw[this,xs,ht,hs];omega
 ·refine xk i k hik hk ?_;rw[rangeL n mn i (by omega)];exact hlt
def SplitAt(w w':World)(lb n:Nat)(mn mx wt:Nat->Int)(r:Int):Prop:=w.heap.size≤lb∧(∃g,FRow w' lb 0 n g∧SplitIs n mn mx wt r g)∧Below w.heap.size w w'
theorem split_none(p:Option Addr)(n cap:Nat)(room gap:Int)(w:World)(hn:n=0∨200<n)(hn2:n≤5864062014805):
 Calls prog 136 #[Iq room,Iq gap,.slice p n cap] w fun e w'=>e=.returned (.slice none 0 0)∧w'=w:=by
 rcases hn with rfl|hn;·go_enter func136,ntmps136;go_wp2;go_ret;exact⟨rfl,rfl⟩
 ·have h1:(200:Int)<(n:Int):=by omega
  have h2:(n:Int)≠0:=by omega
  go_enter func136,ntmps136;go_wp2;go_ret;exact⟨rfl,rfl⟩
structure SSt(w wr:World)(cw lb n k:Nat)(mn mx wt:Nat->Int):Prop where
 len:FRow wr lb 0 n (fun j=>if j<k then mn j else 0)
 want:WRow wr cw 0 n mn mx wt
 bel:Below w.heap.size w wr
theorem SSt.next{w wr:World}{cw lb n k:Nat}{mn mx wt:Nat->Int}(h:SSt w wr cw lb n k mn mx wt)(hk:k<n)(hne:lb≠cw)(hB:w.heap.size≤lb)(o:Obj):SSt w ((wr.setCell ⟨lb,0+k,none⟩ (Iq (mn k))).alloc o) cw lb n (k+1) mn mx wt:=by
 have hb:Below (wr.setCell ⟨lb,0+k,none⟩ (Iq (mn k))).heap.size (wr.setCell ⟨lb,0+k,none⟩ (Iq (mn k))) ((wr.setCell ⟨lb,0+k,none⟩ (Iq (mn k))).alloc o):=(Below.refl _ _).alloc (Nat.le_refl _) _;refine⟨((h.len.set k (mn k) hk).below hb).congr fun j hj=>?_,(h.want.other _ _ _ hne).below hb,(h.bel.setCell hB _).trans (hb.mono ?_)⟩
 ·unfold upd;by_cases e:j=k;·subst e;rw[if_pos rfl,if_pos (by omega)]
  ·rw[if_neg e];dsimp only;by_cases e2:j<k;·rw[if_pos e2,if_pos (by omega)]
   ·rw[if_neg e2,if_neg (by omega)]
 ·have:=h.bel.size;simpa using this
theorem split_any(n blk off cap:Nat)(a b c:Nat->Int)(room gap:Int)(w:World)(h:WRow w blk off n a b c)(hn0:0<n)(hn:n≤200):
 Calls prog 136 #[Iq room,Iq gap,.slice (some ⟨blk,off,none⟩) n cap] w fun e w'=>∃lb,e=.returned (Sq lb n n)∧SplitAt w w' lb n (fun j=>cl (a j)) (fun j=>hMax (a j) (b j)) (fun j=>cl (c j)) (rm room gap n):=by
 have CW:=qH<|clampedWants_any n blk off cap a b c w h (by omega);have CC:=qH<|shClamped_any;obtain⟨mn,hmn⟩:∃f:Nat->Int,(fun j=>cl (a j))=f:=⟨_,rfl⟩;obtain⟨mx,hmx⟩:∃f:Nat->Int,(fun j=>hMax (a j) (b j))=f:=⟨_,rfl⟩;obtain⟨wt,hwt⟩:∃f:Nat->Int,(fun j=>cl (c j))=f:=⟨_,rfl⟩;have HM:Hid (∀j,0≤mn j∧mn j≤mx j∧mx j≤100000∧0≤wt j∧wt j≤100000):=fun j=>by rw[<-hmn,<-hmx,<-hwt];have h1:=cl_bd (a j);have h2:=hMax_bd (a j) (b j);have h3:=cl_bd (c j);exact⟨h1.1,h2.1,h2.2,h3.1,h3.2⟩
 rw[hmn,hmx,hwt]at CW⊢;obtain⟨r,hr⟩:=nmd (rm room gap n);have hr0:=rm_nonneg room gap n;have hr1:=rm_le room gap n hn0;rw[hr]at hr0 hr1⊢;unfold rm at hr;obtain⟨cr,hcr⟩:=nmd (cl room);obtain⟨cg,hcg⟩:=nmd (cl gap);have hcrb:=cl_bd room;have hcgb:=cl_bd gap;have C1:=qH<|fun w=>by have:=CC room w;rw[hcr]at this;exact this
 have C2:=qH<|fun w=>by have:=CC gap w;rw[hcg]at this;exact this
 rw[hcr]at hr hcrb;rw[hcg]at hr hcgb;obtain⟨pr,hpr⟩:=nmd (cg*((n:Int)-1));have hpr0:0≤pr:=by rw[<-hpr];exact Int.mul_nonneg hcgb.1 (by omega)
 have hpr1:pr≤20000000:=by rw[<-hpr];exact Int.le_trans (Int.mul_le_mul hcgb.2 (show(n:Int)-1≤200 by omega) (by omega) (by omega)) (by decide)
 rw[hpr]at hr;have hc1:=hcrb.1;have hc2:=hcrb.2;have hc3:=hcgb.1;have hc4:=hcgb.2;have hmk:=run_make_row' (P:=prog) 59 3 (Iq 0) 8 underlying59 info3row rfl .i64 .i64 n (by omega) (by omega);have hn1:¬(n:Int)=0:=by omega
 have hn2:¬(200:Int)<(n:Int):=by omega
 have hn3:((n:Int)==0)=false:=by simpa using hn1
 clear h hmn hmx hwt hcr hcg hcrb hcgb CC;go_enter func136,ntmps136;go_wp2_with(first|(go_at_call 161;refine CW.mono ?_;rintro e w1 ⟨rfl,q1,q2⟩;fail)|(go_at_call 162;refine(C1 _).mono ?_;rintro e w5 ⟨rfl,rfl⟩)|(go_at_call 162;refine(C2 _).mono ?_;rintro e w5 ⟨rfl,rfl⟩));refine CW.mono ?_;rintro e w1 ⟨rfl,q1,q2⟩;have HW1:=qH<|q1;have HB1:=qH<|q2;have hz1:=q1.1;clear q1 q2 CW;go_wp2_with(first|(go_at_call 162;refine(C1 _).mono ?_;rintro e w5 ⟨rfl,rfl⟩)|(go_at_call 162;refine(C2 _).mono ?_;rintro e w5 ⟨rfl,rfl⟩));obtain⟨lb,hlb⟩:=nmd w1.heap.size;rw[hlb];have S0:Hid (SSt w (w1.alloc (.cells (madeCells #[Iq 0] n) 3)) w.heap.size lb n 0 mn mx wt):=by
  have b1:Below w1.heap.size w1 (w1.alloc (.cells (madeCells #[Iq 0] n) 3)):=(Below.refl _ w1).alloc (Nat.le_refl _) _;refine⟨⟨by simp;omega,fun j hj=>⟨?_,?_⟩⟩,HW1.below b1,HB1.trans (b1.mono (by omega))⟩;·rw[World.cell?_alloc_at _ _ _ _ hlb.symm];simp[madeCells,hj,Nat.mod_one]
  ·rw[World.frozen?_alloc_at _ _ _ _ hlb.symm]
 have hlw:w.heap.size<lb:=by omega
 have HSm:Hid (∀k,sumL mn (List.range (k+1))=sumL mn (List.range k)+mn k):=fun k=>by rw[List.range_succ,sumL_snoc]
 have HSb:Hid (∀k,0≤sumL mn (List.range k)∧sumL mn (List.range k)≤(k:Int)*100000):=fun k=>by
  refine⟨sumL_nonneg fun j _=>(HM j).1,?_⟩;have:=sumL_bound (f:=mn) (l:=List.range k) (b:=100000) fun j _=>by have:=HM j;omega
  rw[List.length_range]at this;exact this
 clear HW1 HB1 hlb hmk;go_loopw[8,36] (fun l i wr=>∃(k:Nat) (x:Int),l=Iq x∧i=Iq k∧k≤n∧-20000000≤x∧x≤r∧Hid (x=r-sumL mn (List.range k))∧Hid (SSt w wr w.heap.size lb n k mn mx wt)) (fun _ i _=>n-(intOf i).toNat);case atStart=>exact⟨0,r,rfl,rfl,Nat.zero_le _,by omega,by omega,by simp[Hid,sumL],S0⟩
 case round=>
  obtain⟨k,x,rfl,rfl,hk,hx0,hx1,HX,HS⟩:=hrel;by_cases hlt:k<n
  ·have hlt':(k:Int)<(n:Int):=by omega
   have hs:=HS.out;have hsb:=HSb (k+1);have hsm:=HSm k;have hcw:=hs.want.2 k hlt;rw[Nat.zero_add]at hcw;obtain⟨a1,ha1⟩:=nmd (mn k);obtain⟨a2,ha2⟩:=nmd (mx k);obtain⟨a3,ha3⟩:=nmd (wt k);have hmk:=HM k;rw[ha1]at hsm;rw[ha1,ha2]at hmk;rw[ha1,ha2,ha3]at hcw;obtain⟨cw0,cw1,cw2⟩:=hcw;have hzc:=hs.want.1;have hzl:=hs.len.1;have cl1:wr.cell? ⟨lb,k,none⟩=some (Iq 0):=by have:=(hs.len.2 k hlt).1;dsimp only at this;rw[if_neg (by omega),Nat.zero_add]at this;exact this
   have fl1:wr.frozen? ⟨lb,k,none⟩=false:=by have:=(hs.len.2 k hlt).2;rw[Nat.zero_add]at this;exact this
   have HX2:Hid (x-a1=r-sumL mn (List.range (k+1))):=by show _=_;rw[hsm,HX.out];omega
   have hx2:-20000000≤x-a1:=by rw[HX2.out];have:=hsb.2;omega
   have HN:=qH<|fun o=>by have:=hs.next hlt (by omega) (by omega) o;rw[ha1,Nat.zero_add]at this;exact this
   have hm1:=hmk.1;have hm2:=hmk.2.1;have hm3:=hmk.2.2.1;clear hs hsb hsm ha1 ha2 ha3 hmk HX HS;go_wp2;go_roundw;case rel=>exact⟨k+1,x-a1,rfl,by go_num,by omega,by omega,by omega,HX2,HN _⟩
   case measure=>simp[intOf];omega
  ·have hge:¬(k:Int)<(n:Int):=by omega
   obtain rfl:n=k:=by omega
   have hs:=HS.out;have hl2:=hs.len.congr fun j hj=>by rw[if_pos hj]
   have hzl:=hs.len.1;have hbw:=hs.bel;have hzs:=hbw.size;by_cases hneg:x<0
   ·have CG:Hid (Calls prog 163 #[Sq lb n n,Iq (-x)] wr fun e w'=>e=.returned (.tuple #[])∧IRow w' lb 0 (gb ((List.range n).map mn) n (-x) [])∧wr.grownBy w' (some lb)):=by refine giveBack_any ((List.range n).map mn) lb 0 n (-x) wr n hl2.irow (rangeL_len n mn) (by omega) (fun y hy=>?_) ⟨by omega,by omega⟩;obtain⟨j,_,rfl⟩:=List.mem_map.1 hy;have:=HM j;omega
    have HF:Hid (∀w2,IRow w2 lb 0 (gb ((List.range n).map mn) n (-x) [])->wr.grownBy w2 (some lb)->SplitAt w w2 lb n mn mx wt r):=by intro w2 hi hg;have hbk:=back_of n mn (fun j=>(HM j).1) r (-x) hr0 (by rw[HX.out];omega) (by omega);refine⟨by omega,⟨_,hi.frow hbk.2,.inl ⟨?_,hbk.1⟩⟩,hbw.grown hg hzs (fun q hq=>by injection hq with hq;omega)⟩;have:=HX.out;omega
    clear hs hl2 hbw HX HS;go_wp2_with fail;refine CG.mono ?_;rintro e w2 ⟨rfl,q1,q2⟩;have HZ:=qH<|HF w2 q1 q2;clear q1 q2;go_wp2;go_ret;exact⟨lb,rfl,HZ⟩
   ·have CP:=qH<|
     pour_any n lb 0 n w.heap.size 0 n w.heap.size mn mx wt r x wr hl2 hs.want (by omega) (by omega) hzs (by omega) (fun j=>by have:=HM j;omega) HX ⟨by omega,by omega⟩;have HF:Hid (∀w2,PourOut wr w2 n lb 0 w.heap.size mn mx wt r->SplitAt w w2 lb n mn mx wt r):=by rintro w2 ⟨g,A,S,L,V,m,p1,p2,p3⟩;refine⟨by omega,⟨g,p2,.inr ⟨?_,A,S,L,V,m,p1⟩⟩,hbw.trans p3⟩;have:=HX.out;omega
    clear hs hl2 hbw HX HS;go_wp2_with fail;refine CP.mono ?_;rintro e w2 ⟨rfl,q1⟩;have HZ:=qH<|HF w2 q1;clear q1;go_wp2;go_ret;exact⟨lb,rfl,HZ⟩
end
section
variable{Mn Mx Wt:Nat->Int}
def levI(mn mx wt p q:Int):Int:=if mx*q<mn*q+p*wt then mx*q else mn*q+p*wt
theorem lev_le1(mn mx wt p q:Int):levI mn mx wt p q≤mx*q∧levI mn mx wt p q≤mn*q+p*wt:=by unfold levI;split<;>omega
def totI(n:Nat)(Mn Mx Wt:Nat->Int)(p q:Int):Int:=sumL (fun j=>levI (Mn j) (Mx j) (Wt j) p q) (List.range n)
theorem lev_mono{mn mx wt p q L V:Int}(hw:0≤wt)(hq:0<q)(hV:0<V)(h:p*V≤L*q):levI mn mx wt p q*V≤levI mn mx wt L V*q:=by
 have h1:=(lev_le1 mn mx wt p q).1;have h2:=(lev_le1 mn mx wt p q).2;have a1:levI mn mx wt p q*V≤mx*q*V:=Int.mul_le_mul_of_nonneg_right h1 (by omega);have a2:levI mn mx wt p q*V≤(mn*q+p*wt)*V:=Int.mul_le_mul_of_nonneg_right h2 (by omega);have a3:=Int.mul_le_mul_of_nonneg_right h hw;have e1:mx*q*V=mx*V*q:=Int.mul_right_comm _ _ _;have e2:(mn*q+p*wt)*V=mn*V*q+p*V*wt:=by rw[Int.add_mul,Int.mul_right_comm mn,Int.mul_right_comm p]
 have e3:(mn*V+L*wt)*q=mn*V*q+L*q*wt:=by rw[Int.add_mul,Int.mul_right_comm L]
 unfold levI at*;by_cases c:mx*V<mn*V+L*wt;·rw[if_pos c];omega
 ·rw[if_neg c];omega
theorem sumL_eq_of_le{f g:Nat->Int}{l:List Nat}(h:∀j∈l,f j≤g j)(e:sumL f l=sumL g l):∀j∈l,f j=g j:=by
 induction l with
 |nil=>intro j hj;simp at hj
 |cons a l ih=>
  have h1:=h a (by simp);have h2:sumL f l≤sumL g l:=sumL_le fun j hj=>h j (by simp[hj]);rw[sumL_cons,sumL_cons]at e;intro j hj;rcases List.mem_cons.1 hj with rfl|hj;·omega
  ·exact ih (fun j hj=>h j (by simp[hj])) (by omega) j hj
theorem Poured.levs{n:Nat}{r:Int}{a:Nat->Int}{A S:List Nat}{L W:Int}{m:Nat}(h:Poured n Mn Mx Wt r a A S L W m)(hw:∀j,Mn j≤Mx j)(hp:∀j,0≤Wt j)(hW:0≤W):
 ∀j,j<n->levI (Mn j) (Mx j) (Wt j) L W=if j∈A then Mx j*W else if j∈S then Mn j*W+L*Wt j else Mn j*W:=by
 obtain⟨hA,hS,hd,fA,fS,hall⟩:=h.facts;intro j hj;unfold levI;by_cases h1:j∈A;·rw[if_pos h1];have:=h.full j h1;rw[Int.sub_mul]at this;split<;>omega
 ·rw[if_neg h1];by_cases h2:j∈S;·rw[if_pos h2];have:=h.open_ j h2;rw[Int.sub_mul]at this;rw[if_neg (by omega)]
  ·rw[if_neg h2];have h0:Wt j=0:=by
    have:=hp j;by_cases e:0<Wt j
    ·rcases hall j hj e with h|h;·exact(h1 h).elim
     ·exact(h2 h).elim
    ·omega
   have hm:=Int.mul_le_mul_of_nonneg_right (hw j) hW;rw[h0,Int.mul_zero];rw[if_neg (by omega)];omega
theorem sumL_if{f:Nat->Int}{n:Nat}{A:List Nat}(hA:A.Nodup)(fA:∀j∈A,j<n):sumL (fun j=>if j∈A then f j else 0) (List.range n)=sumL f A:=by rw[sumL_sub (A:=A) List.nodup_range hA (fun j hj=>by simpa using fA j hj) (fun j _ hj=>if_neg hj)];exact sumL_congr fun j hj=>if_pos hj
theorem Poured.tots{n:Nat}{r:Int}{a:Nat->Int}{A S:List Nat}{L W:Int}{m:Nat}(h:Poured n Mn Mx Wt r a A S L W m)(hw:∀j,Mn j≤Mx j)(hp:∀j,0≤Wt j)(hW:0≤W):totI n Mn Mx Wt L W=r*W:=by
 obtain⟨hA,hS,hd,fA,fS,hall⟩:=h.facts;have hl:=h.levs hw hp hW;have e0:totI n Mn Mx Wt L W=W*sumL Mn (List.range n)+(W*sumL (fun j=>Mx j-Mn j) A+L*sumL Wt S):=by
  unfold totI;rw[<-sumL_mul W,<-sumL_mul W,<-sumL_mul L,<-sumL_if (f:=fun j=>W*(Mx j-Mn j)) hA (fun j hj=>(fA j hj).1),<-sumL_if (f:=fun j=>L*Wt j) hS (fun j hj=>(fS j hj).1),<-sumL_add,<-sumL_add];refine sumL_congr fun j hj=>?_;rw[hl j (by simpa using hj)];by_cases h1:j∈A;·have:=hd j h1;simp only[if_pos h1,if_neg this];rw[Int.mul_sub,Int.mul_comm W (Mx j),Int.mul_comm W (Mn j)];omega
  ·by_cases h2:j∈S;·simp only[if_neg h1,if_pos h2];rw[Int.mul_comm W (Mn j)];omega
   ·simp only[if_neg h1,if_neg h2];rw[Int.mul_comm W (Mn j)];omega
 rw[e0,<-h.weight,h.left];obtain⟨x,hx⟩:=nmd (sumL Mn (List.range n));obtain⟨y,hy⟩:=nmd (sumL (fun j=>Mx j-Mn j) A);rw[hx,hy,Int.sub_mul,Int.sub_mul,Int.mul_comm W x,Int.mul_comm W y];omega
theorem Poured.same{n:Nat}{r:Int}{a:Nat->Int}{A S:List Nat}{L W:Int}{m:Nat}(h:Poured n Mn Mx Wt r a A S L W m)(hw:∀j,Mn j≤Mx j)(hp:∀j,0≤Wt j)(hW:0<W){p q:Int}(hq:0<q)(ht:totI n Mn Mx Wt p q=r*q):
 ∀j,j<n->levI (Mn j) (Mx j) (Wt j) p q*W=levI (Mn j) (Mx j) (Wt j) L W*q:=by
 have h2:=h.tots hw hp (by omega);have e1:sumL (fun j=>levI (Mn j) (Mx j) (Wt j) p q*W) (List.range n)=r*q*W:=by rw[<-ht];unfold totI;rw[Int.mul_comm _ W,<-sumL_mul];exact sumL_congr fun j _=>Int.mul_comm _ _
 have e2:sumL (fun j=>levI (Mn j) (Mx j) (Wt j) L W*q) (List.range n)=r*W*q:=by rw[<-h2];unfold totI;rw[Int.mul_comm _ q,<-sumL_mul];exact sumL_congr fun j _=>Int.mul_comm _ _
 have e3:r*q*W=r*W*q:=Int.mul_right_comm _ _ _;intro j hj;by_cases c:p*W≤L*q;·exact sumL_eq_of_le (fun j _=>lev_mono (hp j) hq hW c) (by rw[e1,e2,e3]) j (by simpa using hj)
 ·exact(sumL_eq_of_le (fun j _=>lev_mono (hp j) hW hq (by omega)) (by rw[e1,e2,e3]) j (by simpa using hj)).symm
theorem cross_div{a N q V:Int}(hq:0<q)(hV:0<V)(h:a*V=N*q):a/q=N/V∧a %q*V=N %V*q:=by
 refine⟨?_,?_⟩;·rw[<-Int.mul_ediv_mul_of_pos_left a q hV,h,Int.mul_comm q V,Int.mul_ediv_mul_of_pos_left N V hq]
 ·rw[Int.mul_comm (a %q) V,<-Int.mul_emod_mul_of_pos a q hV,Int.mul_comm V a,h,Int.mul_comm (N %V) q,<-Int.mul_emod_mul_of_pos N V hq,Int.mul_comm V q,Int.mul_comm q N]
def bse(Mn Mx Wt:Nat->Int)(A S:List Nat)(L W:Int)(j:Nat):Int:=if j∈A then Mx j else if j∈S then Mn j+L*Wt j/W else Mn j
def frc(Wt:Nat->Int)(S:List Nat)(L W:Int)(j:Nat):Int:=if j∈S then L*Wt j %W else 0
theorem Poured.parts{n:Nat}{r:Int}{a:Nat->Int}{A S:List Nat}{L W:Int}{m:Nat}(h:Poured n Mn Mx Wt r a A S L W m)(hw:∀j,Mn j≤Mx j)(hp:∀j,0≤Wt j)(hW:0<W){p q:Int}(hq:0<q)(ht:totI n Mn Mx Wt p q=r*q):
 ∀j,j<n->levI (Mn j) (Mx j) (Wt j) p q/q=bse Mn Mx Wt A S L W j∧levI (Mn j) (Mx j) (Wt j) p q %q*W=frc Wt S L W j*q:=by
 obtain⟨hA,hS,hd,fA,fS,hall⟩:=h.facts;intro j hj;have h1:=h.same hw hp hW hq ht j hj;have h2:=h.levs hw hp (by omega) j hj;have h3:=cross_div hq hW h1;rw[h3.1,h3.2,h2];unfold bse frc;have hW0:W≠0:=by omega
 by_cases c1:j∈A;·rw[if_pos c1,if_pos c1,if_neg (hd j c1)];exact⟨Int.mul_ediv_cancel _ hW0,by rw[Int.mul_emod_left]⟩
 ·rw[if_neg c1,if_neg c1];by_cases c2:j∈S
  ·rw[if_pos c2,if_pos c2,if_pos c2];refine⟨?_,?_⟩;·rw[Int.add_comm,Int.add_mul_ediv_right _ _ hW0,Int.add_comm]
   ·rw[Int.add_comm,Int.add_mul_emod_self_right]
  ·rw[if_neg c2,if_neg c2,if_neg c2];exact⟨Int.mul_ediv_cancel _ hW0,by rw[Int.mul_emod_left]⟩
theorem Poured.is_bse{n:Nat}{r:Int}{a:Nat->Int}{A S:List Nat}{L W:Int}{m:Nat}(h:Poured n Mn Mx Wt r a A S L W m)(j:Nat)(hj:j<n):a j=bse Mn Mx Wt A S L W j+(if j∈S.take m then 1 else 0):=by
 obtain⟨hA,hS,hd,fA,fS,hall⟩:=h.facts;rw[h.is j hj];unfold bse;by_cases c1:j∈A;·rw[if_pos c1,if_pos c1,if_neg (fun e=>hd j c1 (List.mem_of_mem_take e))];omega
 ·rw[if_neg c1,if_neg c1];by_cases c2:j∈S;·rw[if_pos c2,if_pos c2]
  ·rw[if_neg c2,if_neg c2,if_neg (fun e=>c2 (List.mem_of_mem_take e))];omega
theorem Poured.left_m{n:Nat}{r:Int}{a:Nat->Int}{A S:List Nat}{L W:Int}{m:Nat}(h:Poured n Mn Mx Wt r a A S L W m)(hp:∀j,0≤Wt j)(hne:S≠[]):m≤S.length∧r-sumL (bse Mn Mx Wt A S L W) (List.range n)=m:=by
 obtain⟨hA,hS,hd,fA,fS,hall⟩:=h.facts;have hpos:0<W:=by obtain⟨x,hx⟩:=List.exists_mem_of_ne_nil S hne;rw[h.weight];exact Int.lt_of_lt_of_le (fS x hx).2 (sumL_mem (fun k _=>hp k) hx)
 have hb:=missing_bd (L:=L) h.weight hpos;rw[<-h.miss hne]at hb;have hm:m≤S.length:=by omega
 refine⟨hm,?_⟩;have e:=(h.sum hp).1 hne;rw[sumL_congr (fun j hj=>h.is_bse j (by simpa using hj)),sumL_add]at e;have e2:sumL (fun j=>if j∈S.take m then(1:Int)else 0) (List.range n)=m:=by rw[sumL_sub (A:=S) List.nodup_range hS (fun j hj=>by simpa using(fS j hj).1) (fun j _ hj=>if_neg (fun e=>hj (List.mem_of_mem_take e))),take_sum S hS m hm]
 rw[e2]at e;omega
theorem Poured.frac_pos{n:Nat}{r:Int}{a:Nat->Int}{A S:List Nat}{L W:Int}{m:Nat}(h:Poured n Mn Mx Wt r a A S L W m)(hp:∀j,0≤Wt j)(hW:0<W)(t:Nat)(ht:t<m)(hm:m≤S.length):0<L*Wt (S[t]?.getD 0) %W:=by
 have hne:S≠[]:=by intro e;rw[e]at hm;simp at hm;omega
 have htS:t<S.length:=by omega
 obtain⟨i,hi⟩:=nmd (S[t]?.getD 0);rw[hi];have hge:0≤L*Wt i %W:=Int.emod_nonneg _ (by omega);by_cases hz:L*Wt i %W=0
 ·exfalso;have e:sumL (fun j=>L*Wt j) S=W*sumL (fun j=>L*Wt j/W) S+sumL (fun j=>L*Wt j %W) S:=by rw[<-sumL_mul,<-sumL_add];exact sumL_congr fun j _=>(Int.mul_ediv_add_emod _ _).symm
  rw[sumL_mul,<-h.weight]at e;have hmm:=h.miss hne;have hsplit:S=S.take t++(i::S.drop (t+1)):=by rw[<-hi,List.getElem?_eq_getElem htS];show S=S.take t++(S[t]::S.drop (t+1));rw[<-List.drop_eq_getElem_cons htS,List.take_append_drop]
  have hpw:=h.sorted;rw[hsplit,List.pairwise_append]at hpw;have hlater:∀k∈S.drop (t+1),L*Wt k %W=0:=fun k hk=>by have:=(List.pairwise_cons.1 hpw.2.1).1 k hk;have h0:0≤L*Wt k %W:=Int.emod_nonneg _ (by omega);omega
  have hsum:sumL (fun j=>L*Wt j %W) S=sumL (fun j=>L*Wt j %W) (S.take t):=by
   conv=>lhs;rw[hsplit]
   rw[sumL_append,sumL_cons,hz];have:sumL (fun j=>L*Wt j %W) (S.drop (t+1))=0:=by
    rw[sumL_congr (g:=fun _=>0) hlater];have:∀l:List Nat,sumL (fun _=>(0:Int)) l=0:=by
     intro l;induction l with
     |nil=>rfl
     |cons a l ih=>rw[sumL_cons,ih];rfl
    exact this _
   omega
  have hbd:sumL (fun j=>L*Wt j %W) (S.take t)≤((S.take t).length:Int)*W:=sumL_bound fun j _=>Int.le_of_lt (Int.emod_lt_of_pos _ hW);have hlen:(S.take t).length=t:=by rw[List.length_take];omega
  rw[hlen]at hbd;have e4:W*(m:Int)=sumL (fun j=>L*Wt j %W) S:=by rw[hmm,Int.mul_sub,Int.mul_comm W L];omega
  have h6:W*(t+1:Int)≤W*(m:Int):=Int.mul_le_mul_of_nonneg_left (by omega) (by omega);rw[Int.mul_add,Int.mul_one,Int.mul_comm W (t:Int)]at h6;rw[e4,hsum]at h6;omega
 ·omega
theorem Poured.all_full{n:Nat}{r:Int}{a:Nat->Int}{A:List Nat}{L W:Int}{m:Nat}(h:Poured n Mn Mx Wt r a A [] L W m)(hw:∀j,Mn j≤Mx j)(hp:∀j,0≤Wt j){p q:Int}(hq:0<q)(ht:totI n Mn Mx Wt p q=r*q):
 (∀j,j<n->levI (Mn j) (Mx j) (Wt j) p q=a j*q)∧r=sumL a (List.range n):=by
 obtain⟨nA,nS,hd,fA,fS,hall⟩:=h.facts;have hs:=(h.sum hp).2 rfl;have hle:∀j∈List.range n,levI (Mn j) (Mx j) (Wt j) p q≤a j*q:=fun j hj=>by
  have hj:j<n:=by simpa using hj
  rw[h.is j hj];have h1:=(lev_le1 (Mn j) (Mx j) (Wt j) p q);by_cases c:j∈A;·rw[if_pos c];exact h1.1
  ·rw[if_neg c,if_neg (by simp)];have h0:Wt j=0:=by
    have:=hp j;by_cases e:0<Wt j
    ·rcases hall j hj e with h|h;·exact(c h).elim
     ·simp at h
    ·omega
   rw[h0,Int.mul_zero]at h1;rw[h0];omega
 have e1:sumL (fun j=>a j*q) (List.range n)=sumL a (List.range n)*q:=by rw[Int.mul_comm,<-sumL_mul];exact sumL_congr fun j _=>Int.mul_comm _ _
 have hsum:=sumL_le hle;have ht':sumL (fun j=>levI (Mn j) (Mx j) (Wt j) p q) (List.range n)=r*q:=ht;rw[ht',e1]at hsum;have h3:=Int.le_of_mul_le_mul_right hsum hq;have hr:r=sumL a (List.range n):=by have:=h.pos;omega
 refine⟨fun j hj=>sumL_eq_of_le hle (by rw[ht',e1,<-hr]) j (by simpa using hj),hr⟩
structure Best(n:Nat)(f:Nat->Int)(b:Nat):Prop where
 lt:b<n
 top:∀j,j<n->f j≤f b
 first:∀j,j<b->f j<f b
theorem Best.uniq{n:Nat}{f:Nat->Int}{b c:Nat}(h:Best n f b)(k:Best n f c):b=c:=by
 rcases Nat.lt_trichotomy b c with e|e|e;·have:=k.first b e;have:=h.top c k.lt;omega
 ·exact e
 ·have:=h.first c e;have:=k.top b h.lt;omega
theorem Poured.best{n:Nat}{r:Int}{a:Nat->Int}{A S:List Nat}{L W:Int}{m:Nat}(h:Poured n Mn Mx Wt r a A S L W m)(hp:∀j,0≤Wt j)(hW:0<W)(t:Nat)(ht:t<m)(hm:m≤S.length)(rest:Nat->Int){q:Int}(hq:0<q)(hr:∀j,j<n->rest j*W=frc Wt S L W j*q):
 Best n (fun j=>if j∈S.take t then-1 else rest j) (S[t]?.getD 0):=by
 obtain⟨nA,nS,hd,fA,fS,hall⟩:=h.facts;have hpos:=h.frac_pos hp hW t ht hm;have htS:t<S.length:=by omega
 obtain⟨i,hi⟩:=nmd (S[t]?.getD 0);rw[hi]at hpos⊢;have hiS:i∈S:=by rw[<-hi,List.getElem?_eq_getElem htS];exact List.getElem_mem htS
 have hsplit:S=S.take t++(i::S.drop (t+1)):=by rw[<-hi,List.getElem?_eq_getElem htS];show S=S.take t++(S[t]::S.drop (t+1));rw[<-List.drop_eq_getElem_cons htS,List.take_append_drop]
 have hnt:i∉S.take t:=by have:=nS;rw[hsplit,List.nodup_append]at this;exact fun hm=>this.2.2 i hm i (by simp) rfl
 have hpw:=h.sorted;rw[hsplit,List.pairwise_append]at hpw;have hlater:=(List.pairwise_cons.1 hpw.2.1).1;have hri:=hr i (fS i hiS).1;have hfi:frc Wt S L W i=L*Wt i %W:=by unfold frc;rw[if_pos hiS]
 rw[hfi]at hri;have hposr:0<rest i:=by
  have h1:=Int.mul_pos hpos hq;rw[<-hri]at h1;by_cases e:0<rest i;·exact e
  ·have:rest i*W≤0:=Int.mul_nonpos_of_nonpos_of_nonneg (by omega) (by omega);omega
 have key:∀j,j<n->j∉S.take t->j≠i->(rest j<rest i∨(rest j=rest i∧i<j)):=by
  intro j hj hnt' hji;have hrj:=hr j hj;by_cases hjS:j∈S
  ·have hjl:j∈S.drop (t+1):=by
    rw[hsplit]at hjS;rcases List.mem_append.1 hjS with h1|h1;·exact(hnt' h1).elim
    ·rcases List.mem_cons.1 h1 with h1|h1;·exact(hji h1).elim
     ·exact h1
   have hfj:frc Wt S L W j=L*Wt j %W:=by unfold frc;rw[if_pos hjS]
   rw[hfj]at hrj;rcases hlater j hjl with h1|⟨h1,h2⟩;·left;have h3:=Int.mul_lt_mul_of_pos_right h1 hq;rw[<-hri,<-hrj]at h3;exact Int.lt_of_mul_lt_mul_right h3 (by omega)
   ·right;refine⟨?_,h2⟩;rw[<-h1,<-hri]at hrj;exact Int.eq_of_mul_eq_mul_right (by omega) hrj
  ·left;have hfj:frc Wt S L W j=0:=by unfold frc;rw[if_neg hjS]
   rw[hfj,Int.zero_mul]at hrj;have:rest j=0:=by
    rcases Int.mul_eq_zero.1 hrj with h|h;·exact h
    ·omega
   omega
 refine⟨(fS i hiS).1,fun j hj=>?_,fun j hj=>?_⟩
 ·rw[if_neg hnt];by_cases c:j∈S.take t;·rw[if_pos c];omega
  ·rw[if_neg c];by_cases e:j=i;·rw[e];exact Int.le_refl _
   ·rcases key j hj c e with h|⟨h,_⟩<;>omega
 ·rw[if_neg hnt];have hjn:j<n:=by have:=(fS i hiS).1;omega
  by_cases c:j∈S.take t;·rw[if_pos c];omega
  ·rw[if_neg c];rcases key j hjn c (by omega)with h|⟨_,h⟩<;>omega
theorem sum_tail(f:Nat->Int)(n k:Nat)(hk:k≤n):sumL f (List.range n)=sumL f (List.range k)+sumL f ((List.range n).drop k):=by
 rw[<-sumL_append];congr 1;have:List.range k=(List.range n).take k:=by rw[List.take_range,Nat.min_eq_left hk]
 rw[this,List.take_append_drop]
theorem mem_tail{n k j:Nat}(h:j∈(List.range n).drop k):k≤j∧j<n:=by obtain⟨i,hi,e⟩:=List.mem_iff_getElem.1 h;rw[List.getElem_drop,List.getElem_range]at e;rw[List.length_drop,List.length_range]at hi;omega
theorem Back.le_of{n:Nat}{mn:Nat->Int}{r:Int}{g g':Nat->Int}(h:Back n mn r g)(h':Back n mn r g')(k:Nat)(hk:k<n)(e:∀j,j<k->g j=g' j):g' k≤g k:=by
 by_cases c:g' k≤g k;·exact c
 ·exfalso;have hb:=h'.bd k hk;have s1:=sum_tail g n (k+1) (by omega);have s2:=sum_tail g' n (k+1) (by omega);have t1:sumL g ((List.range n).drop (k+1))≤0:=by
   have:sumL g ((List.range n).drop (k+1))≤sumL (fun _=>0) ((List.range n).drop (k+1)):=sumL_le fun j hj=>by have:=mem_tail hj;rw[h.behind k j (by omega) (by omega) (by omega)];exact Int.le_refl _
   refine Int.le_trans this ?_;have z:∀l:List Nat,sumL (fun _=>(0:Int)) l=0:=by
    intro l;induction l with
    |nil=>rfl
    |cons a l ih=>rw[sumL_cons,ih];rfl
   rw[z];exact Int.le_refl _
  have t2:0≤sumL g' ((List.range n).drop (k+1)):=sumL_nonneg fun j hj=>(h'.bd j (mem_tail hj).2).1;have t3:sumL g (List.range k)=sumL g' (List.range k):=sumL_congr fun j hj=>e j (by simpa using hj);rw[List.range_succ,sumL_snoc]at s1 s2;have:=h.sum;have:=h'.sum;omega
theorem Back.uniq{n:Nat}{mn:Nat->Int}{r:Int}{g g':Nat->Int}(h:Back n mn r g)(h':Back n mn r g'):∀j,j<n->g j=g' j:=by
 have:∀k,k≤n->∀j,j<k->g j=g' j:=by
  intro k;induction k with
  |zero=>intro _ j hj;omega
  |succ k ih=>
   intro hk j hj;have ihk:=ih (by omega);by_cases e:j<k;·exact ihk j e
   ·obtain rfl:j=k:=by omega
    have a1:=h.le_of h' j (by omega) ihk;have a2:=h'.le_of h j (by omega) (fun i hi=>(ihk i hi).symm);omega
 exact this n (Nat.le_refl _)
end
section
open Go.RowKit Go.Sort
def Heldb(Mn Mx Wt:Nat->Int):Prop:=∀j,0≤Mn j∧Mn j≤Mx j∧Mx j≤100000∧0≤Wt j∧Wt j≤100000
structure Parts(n:Nat)(Mn Mx Wt:Nat->Int)(r p q:Int)(g:Nat->Int)(S:List Nat)(m:Nat)(base rest:Nat->Int):Prop where
 base_:∀j,j<n->levI (Mn j) (Mx j) (Wt j) p q/q=base j
 rest_:∀j,j<n->levI (Mn j) (Mx j) (Wt j) p q %q=rest j
 left:r-sumL base (List.range n)=m
 le:m≤S.length
 nodup:S.Nodup
 lt:∀j∈S,j<n
 best:∀t,t<m->Best n (fun j=>if j∈S.take t then-1 else rest j) (S[t]?.getD 0)
 is:∀j,j<n->g j=base j+(if j∈S.take m then 1 else 0)
theorem parts_of{n:Nat}{Mn Mx Wt:Nat->Int}{r p q:Int}{g:Nat->Int}(hM:Heldb Mn Mx Wt)(hsp:SplitIs n Mn Mx Wt r g)(hle:sumL Mn (List.range n)≤r)(hq:0<q)(ht:totI n Mn Mx Wt p q=r*q):∃S m base rest,Parts n Mn Mx Wt r p q g S m base rest:=by
 have hw:=fun j=>(hM j).2.1;have hp:=fun j=>(hM j).2.2.2.1;rcases hsp with⟨h1,_⟩|⟨_,A,S,L,V,m,h⟩;·omega
 ·obtain⟨nA,nS,hd,fA,fS,hall⟩:=h.facts;by_cases hS:S=[];·subst hS;have hf:=h.all_full hw hp hq ht;refine⟨[],0,g,fun j=>levI (Mn j) (Mx j) (Wt j) p q %q,fun j hj=>?_,fun _ _=>rfl,by rw[<-hf.2];simp,by simp,by simp,by simp,fun t ht=>by omega,fun j hj=>by simp⟩;rw[hf.1 j hj];exact Int.mul_ediv_cancel _ (by omega)
  ·have hV:0<V:=by obtain⟨x,hx⟩:=List.exists_mem_of_ne_nil S hS;rw[h.weight];exact Int.lt_of_lt_of_le (fS x hx).2 (sumL_mem (fun k _=>hp k) hx)
   have hpt:=h.parts hw hp hV hq ht;have hlm:=h.left_m hp hS;exact⟨S,m,bse Mn Mx Wt A S L V,fun j=>levI (Mn j) (Mx j) (Wt j) p q %q,fun j hj=>(hpt j hj).1,fun _ _=>rfl,hlm.2,hlm.1,nS,fun j hj=>(fS j hj).1,fun t ht=>h.best hp hV t ht hlm.1 _ hq (fun j hj=>(hpt j hj).2),fun j hj=>h.is_bse j hj⟩
theorem Best.congr{n:Nat}{f g:Nat->Int}{b:Nat}(h:Best n f b)(e:∀j,j<n->f j=g j):Best n g b:=by
 refine⟨h.lt,fun j hj=>?_,fun j hj=>?_⟩;·rw[<-e j hj,<-e b h.lt];exact h.top j hj
 ·have:=h.lt;rw[<-e j (by omega),<-e b h.lt];exact h.first j hj
theorem Parts.uniq{n:Nat}{Mn Mx Wt:Nat->Int}{r p q:Int}{g g':Nat->Int}{S S':List Nat}{m m':Nat}{base base' rest rest':Nat->Int}(h:Parts n Mn Mx Wt r p q g S m base rest)(h':Parts n Mn Mx Wt r p q g' S' m' base' rest'):∀j,j<n->g j=g' j:=by
 have hb:=fun j hj=>(h.base_ j hj).symm.trans (h'.base_ j hj);have hr:=fun j hj=>(h.rest_ j hj).symm.trans (h'.rest_ j hj);have hs:sumL base (List.range n)=sumL base' (List.range n):=sumL_congr fun j hj=>hb j (by simpa using hj);have hm:m=m':=by have h1:=h.left;have h2:=h'.left;omega
 subst hm;have ht:∀t,t≤m->S.take t=S'.take t:=by
  intro t;induction t with
  |zero=>intro _;simp
  |succ t ih=>
   intro hle;have e:=ih (by omega);have b1:=h.best t (by omega);have b2:=h'.best t (by omega);have b3:=b1.congr (g:=fun j=>if j∈S'.take t then-1 else rest' j) fun j hj=>by rw[e,hr j hj]
   have e2:=b3.uniq b2;have l1:t<S.length:=by have:=h.le;omega
   have l2:t<S'.length:=by have:=h'.le;omega
   rw[List.getElem?_eq_getElem l1,List.getElem?_eq_getElem l2]at e2;have e3:S[t]=S'[t]:=e2;rw[List.take_succ_eq_append_getElem l1,List.take_succ_eq_append_getElem l2,e,e3]
 intro j hj;rw[h.is j hj,h'.is j hj,hb j hj,ht m (Nat.le_refl _)]
theorem SplitIs.uniq{n:Nat}{Mn Mx Wt:Nat->Int}{r:Int}{g g':Nat->Int}(hM:Heldb Mn Mx Wt)(h:SplitIs n Mn Mx Wt r g)(h':SplitIs n Mn Mx Wt r g'):∀j,j<n->g j=g' j:=by
 have hw:=fun j=>(hM j).2.1;have hp:=fun j=>(hM j).2.2.2.1;have k:=h;have k':=h';rcases h with⟨a,b⟩|⟨a,A,S,L,V,m,p⟩
 ·rcases h' with⟨a',b'⟩|⟨a',_⟩;·exact b.uniq b'
  ·omega
 ·rcases h' with⟨a',_⟩|⟨a',A',S',L',V',m',p'⟩;·omega
  ·obtain⟨_,_,_,fA,fS,hall⟩:=p.facts;obtain⟨_,_,_,fA',fS',hall'⟩:=p'.facts;by_cases e:S=[]
   ·by_cases e':S'=[]
    ·subst e;subst e';intro j hj;rw[p.is j hj,p'.is j hj];have key:j∈A↔j∈A':=⟨fun q=>(hall' j hj (fA j q).2).elim id (fun q=>absurd q (by simp)),fun q=>(hall j hj (fA' j q).2).elim id (fun q=>absurd q (by simp))⟩;by_cases c:j∈A;·rw[if_pos c,if_pos (key.1 c)]
     ·rw[if_neg c,if_neg (fun q=>c (key.2 q))];simp
    ·have hV:0<V':=by obtain⟨x,hx⟩:=List.exists_mem_of_ne_nil S' e';rw[p'.weight];exact Int.lt_of_lt_of_le (fS' x hx).2 (sumL_mem (fun k _=>hp k) hx)
     have ht:=p'.tots hw hp (by omega);obtain⟨_,_,_,_,q1⟩:=parts_of hM k a hV ht;obtain⟨_,_,_,_,q2⟩:=parts_of hM k' a' hV ht;exact q1.uniq q2
   ·have hV:0<V:=by obtain⟨x,hx⟩:=List.exists_mem_of_ne_nil S e;rw[p.weight];exact Int.lt_of_lt_of_le (fS x hx).2 (sumL_mem (fun k _=>hp k) hx)
    have ht:=p.tots hw hp (by omega);obtain⟨_,_,_,_,q1⟩:=parts_of hM k a hV ht;obtain⟨_,_,_,_,q2⟩:=parts_of hM k' a' hV ht;exact q1.uniq q2
end
section
open Go.RowKit Go.Sort Go.Proofs.Tryz
def WIn(W:World)(v:Value)(n:Nat)(a b c:Nat->Int):Prop:=∃p cap,v=.slice p n cap∧(n=0∨∃g off,p=some ⟨g,off,none⟩∧WRow W g off n a b c)
theorem WIn.below{A B:World}{v:Value}{n:Nat}{a b c:Nat->Int}(h:WIn A v n a b c)(hb:Below A.heap.size A B):WIn B v n a b c:=by
 obtain⟨p,cap,hv,h⟩:=h;refine⟨p,cap,hv,?_⟩;rcases h with h|⟨g,off,hp,hr⟩;·exact .inl h
 ·exact .inr ⟨g,off,hp,hr.below hb⟩
def SplitV(w w':World)(v:Value)(n:Nat)(a b c:Nat->Int)(room gap:Int):Prop:=
 ((n=0∨200<n)∧v=.slice none 0 0∧w'=w)∨(0<n∧n≤200∧∃lb,v=Sq lb n n∧SplitAt w w' lb n (fun j=>cl (a j)) (fun j=>hMax (a j) (b j)) (fun j=>cl (c j)) (rm room gap n))
theorem split_all(v:Value)(n:Nat)(a b c:Nat->Int)(room gap:Int)(w:World)(h:WIn w v n a b c)(hn:n≤5864062014805):
 Calls prog 136 #[Iq room,Iq gap,v] w fun e w'=>∃v,e=.returned v∧SplitV w w' v n a b c room gap:=by
 obtain⟨p,cap,rfl,h⟩:=h;by_cases h0:n=0∨200<n;·exact(split_none p n cap room gap w h0 (by omega)).mono fun e w' ⟨he,hw⟩=>⟨_,he,.inl ⟨h0,rfl,hw⟩⟩
 ·obtain⟨g,off,rfl,hr⟩:=h.resolve_left (fun e=>h0 (.inl e));exact(split_any n g off cap a b c room gap w hr (by omega) (by omega)).mono fun e w' ⟨lb,he,hs⟩=>⟨_,he,.inr ⟨by omega,by omega,lb,rfl,hs⟩⟩
theorem SplitV.below{w w':World}{v:Value}{n:Nat}{a b c:Nat->Int}{room gap:Int}(h:SplitV w w' v n a b c room gap):Below w.heap.size w w':=by
 rcases h with⟨_,_,rfl⟩|⟨_,_,lb,_,h⟩;·exact Below.refl _ _
 ·exact h.2.2
end
section
open Go.RowKit Go.Sort
theorem SplitIs.tiles{n:Nat}{mn mx wt g:Nat->Int}{r:Int}(h:SplitIs n mn mx wt r g)(hm:∀j,0≤mn j∧mn j≤mx j∧mx j≤100000∧0≤wt j∧wt j≤100000):
 (∀j,j<n->0≤g j∧g j≤mx j)∧(r≤sumL mn (List.range n)∨r≤sumL (fun j=>if 0<wt j then mx j else mn j) (List.range n)->sumL g (List.range n)=r)∧
  (sumL mn (List.range n)<r->sumL (fun j=>if 0<wt j then mx j else mn j) (List.range n)<r->sumL g (List.range n)=sumL (fun j=>if 0<wt j then mx j else mn j) (List.range n)):=by
 have hle:sumL mn (List.range n)≤sumL (fun j=>if 0<wt j then mx j else mn j) (List.range n):=sumL_le fun j _=>by have:=hm j;split<;>omega
 rcases h with⟨h1,hb⟩|⟨h1,A,S,L,V,m,hp⟩;·refine⟨fun j hj=>?_,fun _=>hb.sum,fun h=>by omega⟩;have:=hb.bd j hj;have:=hm j;omega
 ·have ht:=hp.tiles (fun j=>(hm j).2.1) (fun j=>(hm j).2.2.2.1);refine⟨fun j hj=>?_,fun h=>by omega,fun _ h=>by omega⟩;have:=hp.bds (fun j=>(hm j).2.1) (fun j=>(hm j).2.2.2.1) j hj;have:=hm j;omega
theorem held_bds(a b c:Nat->Int)(j:Nat):0≤cl (a j)∧cl (a j)≤hMax (a j) (b j)∧hMax (a j) (b j)≤100000∧0≤cl (c j)∧cl (c j)≤100000:=
 ⟨(cl_bd _).1,(hMax_bd _ _).1,(hMax_bd _ _).2,(cl_bd _).1,(cl_bd _).2⟩
end
section
open Go.RowKit Go.Sort Go.Proofs.Tryz
def offs(g:Nat->Int)(cg:Int)(k:Nat):Int:=sumL (fun j=>g j+cg) (List.range k)
theorem offs_next(g:Nat->Int)(cg:Int)(k:Nat):offs g cg (k+1)=offs g cg k+(g k+cg):=by unfold offs;rw[List.range_succ,sumL_snoc]
theorem offs_bd{g:Nat->Int}{cg:Int}{n:Nat}(hg:∀j,j<n->0≤g j∧g j≤100000)(hc:0≤cg∧cg≤100000)(k:Nat)(hk:k≤n):0≤offs g cg k∧offs g cg k≤(k:Int)*200000:=by
 refine⟨sumL_nonneg fun j hj=>by have:=hg j (by have:=List.mem_range.1 hj;omega);omega,?_⟩;have:=sumL_bound (f:=fun j=>g j+cg) (l:=List.range k) (b:=200000) fun j hj=>by have:=hg j (by have:=List.mem_range.1 hj;omega);omega
 rw[List.length_range]at this;exact this
def OffV(w w':World)(v:Value)(n:Nat)(a b c:Nat->Int)(room gap:Int):Prop:=
 ((n=0∨200<n)∧v=.slice none 0 0∧w'=w)∨(0<n∧n≤200∧∃lb g,v=Sq lb n n∧FRow w' lb 0 n (offs g (cl gap))∧SplitIs n (fun j=>cl (a j)) (fun j=>hMax (a j) (b j)) (fun j=>cl (c j)) (rm room gap n) g∧Below w.heap.size w w')
theorem OffV.below{w w':World}{v:Value}{n:Nat}{a b c:Nat->Int}{room gap:Int}(h:OffV w w' v n a b c room gap):Below w.heap.size w w':=by
 rcases h with⟨_,_,rfl⟩|⟨_,_,lb,g,_,_,_,h⟩;·exact Below.refl _ _
 ·exact h
theorem off_upd(g:Nat->Int)(cg:Int)(k:Nat)(j:Nat):upd (fun j=>if j<k then offs g cg j else g j) k (offs g cg k) j=if j<k+1 then offs g cg j else g j:=by
 unfold upd;by_cases e:j=k;·subst e;rw[if_pos rfl,if_pos (by omega)]
 ·rw[if_neg e];dsimp only;by_cases e2:j<k;·rw[if_pos e2,if_pos (by omega)]
  ·rw[if_neg e2,if_neg (by omega)]
def OffLow(w:World)(v:Value):Prop:=∀lb o n c,v=.slice (some ⟨lb,o,none⟩) n c->w.heap.size≤lb
theorem offsets_low(v:Value)(n:Nat)(a b c:Nat->Int)(room gap:Int)(w:World)(h:WIn w v n a b c)(hn:n≤5864062014805):
 Calls prog 137 #[Iq room,Iq gap,v] w fun e w'=>∃v,e=.returned v∧OffV w w' v n a b c room gap∧OffLow w v:=by
 have C2:Hid (Calls prog 136 #[Iq room,Iq gap,v] w fun e w'=>∃v,e=.returned v∧SplitV w w' v n a b c room gap):=split_all v n a b c room gap w h hn;have CC:Hid (∀w,Calls prog 162 #[Iq gap] w fun e w'=>e=.returned (Iq (cl gap))∧w'=w):=fun w=>shClamped_any gap w;have hcg:=cl_bd gap;obtain⟨cg,hcge⟩:=nmd (cl gap);have HCG:Hid (cl gap=cg):=hcge;rw[hcge]at CC hcg;have cg0:=hcg.1;have cg1:=hcg.2;clear h hcge hcg;go_enter func137,ntmps137;go_wp2_with fail;refine C2.out.mono ?_;rintro e w2 ⟨v2,rfl,hs⟩;clear C2;rcases hs with⟨h0,rfl,rfl⟩|⟨h1,h2,lb,rfl,hlb,⟨g,hrow,hsp⟩,hbel⟩
 ·have HO:Hid (OffV w2 w2 (.slice none 0 0) n a b c room gap):=.inl ⟨h0,rfl,rfl⟩;clear h0;go_wp2;go_loop[8,17] (fun s i=>s=Iq 0∧i=Iq 0) (fun _ _=>0);case atStart=>exact⟨rfl,rfl⟩
  case round=>obtain⟨rfl,rfl⟩:=hrel;go_wp2;go_ret;exact⟨_,rfl,HO.out,fun lb o n c e=>by cases e⟩
 ·have hgb:∀j,j<n->0≤g j∧g j≤100000:=fun j hj=>by have h1:=(hsp.tiles (held_bds a b c)).1 j hj;have h2:=held_bds a b c j;omega
  have HGB:Hid (∀j,j<n->0≤g j∧g j≤100000):=hgb;have HOB:Hid (∀k,k≤n->0≤offs g cg k∧offs g cg k≤(k:Int)*200000):=fun k hk=>offs_bd hgb ⟨cg0,cg1⟩ k hk;have HSP:Hid (SplitIs n (fun j=>cl (a j)) (fun j=>hMax (a j) (b j)) (fun j=>cl (c j)) (rm room gap n) g):=hsp;have R0:Hid (FRow w2 lb 0 n (fun j=>if j<0 then offs g cg j else g j)∧Below w.heap.size w w2):=⟨hrow.congr fun j _=>by simp,hbel⟩;clear hgb hsp hrow hbel;go_wp2;go_loopw[8,17] (fun s i wr=>∃k:Nat,s=Iq (offs g cg k)∧i=Iq k∧k≤n∧Hid (FRow wr lb 0 n (fun j=>if j<k then offs g cg j else g j)∧Below w.heap.size w wr)) (fun _ i _=>n-(intOf i).toNat);case atStart=>exact⟨0,rfl,rfl,Nat.zero_le _,R0.out⟩
  case round=>
   obtain⟨k,rfl,rfl,hk,HR⟩:=hrel;by_cases hlt:k<n
   ·have hlt':(k:Int)<(n:Int):=by omega
    have hc:=HR.out.1.2 k hlt;dsimp only at hc;rw[if_neg (by omega),Nat.zero_add]at hc;have hgk:=HGB.out k hlt;have ho1:=HOB.out k hk;have ho2:=HOB.out (k+1) (by omega);have hnx:=offs_next g cg k;have hset:=HR.out.1.set k (offs g cg k) hlt;rw[Nat.zero_add]at hset;have HN:Hid (FRow (wr.setCell ⟨lb,k,none⟩ (Iq (offs g cg k))) lb 0 n (fun j=>if j<k+1 then offs g cg j else g j)∧Below w.heap.size w (wr.setCell ⟨lb,k,none⟩ (Iq (offs g cg k)))):=⟨hset.congr fun j _=>off_upd g cg k j,HR.out.2.setCell hlb _⟩;obtain⟨gk,hgke⟩:=nmd (g k);rw[hgke]at hc hgk hnx;obtain⟨o1,ho1e⟩:=nmd (offs g cg k);rw[ho1e]at ho1 hnx HN⊢;have HNX:Hid (offs g cg (k+1)=o1+(gk+cg)):=hnx;obtain⟨cl1,fl1⟩:=hc;obtain⟨gk0,gk1⟩:=hgk;obtain⟨o10,o11⟩:=ho1;clear hset hgke ho1e ho2 hnx HR;go_wp2_with(go_at_call 162;refine(CC.out _).mono ?_;rintro e w5 ⟨rfl,rfl⟩);go_roundw;case rel=>exact⟨k+1,by rw[HNX.out],by go_num,by omega,HN.out⟩
    case measure=>simp[intOf];omega
   ·have hge:¬(k:Int)<(n:Int):=by omega
    obtain rfl:n=k:=by omega
    have HF:Hid (OffV w wr (Sq lb n n) n a b c room gap):=.inr ⟨h1,h2,lb,g,rfl,by rw[HCG.out];exact HR.out.1.congr fun j hj=>by rw[if_pos hj],HSP.out,HR.out.2⟩;clear HR;go_wp2;go_ret;exact⟨_,rfl,HF.out,fun lb' o n' c' e=>by injection e with e1;injection e1 with e1;injection e1 with e1;omega⟩
end
end Go.Proofs.YtmbefonnkkhfgaaGreatDoor
