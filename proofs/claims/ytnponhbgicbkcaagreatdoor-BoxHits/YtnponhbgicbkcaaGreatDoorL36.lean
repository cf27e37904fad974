import Derived.Shelf.SortM.Plain
import Derived.Shelf.SortM.SortNone
import Derived.Test.YtnponhbgicbkcaaGreatDoorL17
set_option linter.unusedVariables false
set_option maxRecDepth 100000
set_option maxHeartbeats 16000000
namespace Go.Proofs.YtnponhbgicbkcaaGreatDoor
end Go.Proofs.YtnponhbgicbkcaaGreatDoor
namespace Go.Proofs
open Go.Shelf
shelf_lay_g SlLaysM.n5 Slgm 5 at Tryz 212 as Tryz.sortLaid
end Go.Proofs
namespace Go.Proofs.YtnponhbgicbkcaaGreatDoor
section
open Go.RowKit Go.Sort Go.Proofs.Tryz
theorem grownBy_sorted{w:World}{g n off}{os} d :w.grownBy (grow (putRow (Value.int .i64) (Sort.ahead w n) g off d) os) (some g):=by refine⟨rfl,rfl,rfl,by simp,fun k hk hne=>?_⟩;rw[heap_grow_old _ _ (by simpa using hk)];have:g≠k:=fun e=>hne (by rw[e]);simp[putRow,mapBlock,Sort.ahead,Array.getElem?_modify,this]
theorem slicesSort_any zs  blk off cap n  w (h:IRow w blk off zs)(hn:zs.length=n)(hlen:n≤1099511627776):
 Calls prog 212 #[.slice (some ⟨blk,off,none⟩) n cap] w fun e w'=>e=.returned (.tuple #[])∧IRow w' blk off (zs.mergeSort fun x y=>decide (x≤y))∧w.grownBy w' (some blk):=by
 subst hn;have hH:Holds (Value.int .i64) w blk off zs.toArray:=fun j hj=>by
  have hj':j<zs.length:=by simpa using hj
  refine⟨?_,(h.2 j hj').2⟩;rw[(h.2 j hj').1];simp[hj']
 refine(AnyM.slices_Sort_int Tryz.sortLaid blk off cap zs w hH h.1 (by omega)).mono ?_;rintro e w' ⟨he,q,os,rfl⟩;refine⟨he,?_,grownBy_sorted _⟩;obtain⟨ms,hms⟩:=nmd (zs.mergeSort fun x y=>decide (x≤y));have hml:ms.length=zs.length:=by rw[<-hms];exact(List.mergeSort_perm _ _).length_eq
 rw[hms];have h1:Holds (Value.int .i64) (putRow (Value.int .i64) (Sort.ahead w q) blk off ms.toArray) blk off ms.toArray:=holds_putRow _ _ _ _ zs.toArray _ hH (by simp[hml]);have hX:blk<(putRow (Value.int .i64) (Sort.ahead w q) blk off ms.toArray).heap.size:=by simpa using h.1
 have hB:Below (putRow (Value.int .i64) (Sort.ahead w q) blk off ms.toArray).heap.size (putRow (Value.int .i64) (Sort.ahead w q) blk off ms.toArray) (grow (putRow (Value.int .i64) (Sort.ahead w q) blk off ms.toArray) os):=
  ⟨rfl,rfl,rfl,by simp,fun k hk=>heap_grow_old _ _ hk⟩;refine⟨Nat.lt_of_lt_of_le hX hB.size,fun j hj=>?_⟩;have:=h1 j (by simpa using hj);refine⟨(hB.cell (p:=⟨blk,off+j,none⟩) hX).trans (this.1.trans ?_),(hB.frozen (p:=⟨blk,off+j,none⟩) hX).trans this.2⟩;simp[hj]
def FRow(W:World)(blk off n:Nat)(g:Nat->Int):Prop:=blk<W.heap.size∧∀j,j<n->W.cell? ⟨blk,off+j,none⟩=some (Iq (g j))∧W.frozen? ⟨blk,off+j,none⟩=false
def upd(g:Nat->Int)(i:Nat)(y:Int):Nat->Int:=fun k=>if k=i then y else g k
theorem FRow.set{W}{blk off n}{g}(h:FRow W blk off n g) i  y (hi:i<n):FRow (W.setCell ⟨blk,off+i,none⟩ (Iq y)) blk off n (upd g i y):=by
 refine⟨by simpa using h.1,fun k hk=>?_⟩;simp only[World.frozen?_setCell];refine⟨?_,(h.2 k hk).2⟩;rw[set_at _ _ _ _ _ ⟨_,(h.2 i hi).1⟩];unfold upd;by_cases e:k=i;·rw[if_pos e,if_pos (by omega)]
 ·rw[if_neg e,if_neg (by omega)];exact(h.2 k hk).1
theorem FRow.other{W}{blk off n}{g}(h:FRow W blk off n g) b o  v (hb:b≠blk):FRow (W.setCell ⟨b,o,none⟩ v) blk off n g:=by refine⟨by simpa using h.1,fun k hk=>?_⟩;simp only[World.frozen?_setCell];refine⟨?_,(h.2 k hk).2⟩;rw[World.cell?_setCell_other _ _ _ _ (fun e=>hb (by injection e with e1 e2)),(h.2 k hk).1]
theorem FRow.congr{W}{blk off n}{g g'}(h:FRow W blk off n g)(e:∀j,j<n->g j=g' j):FRow W blk off n g':=
 ⟨h.1,fun j hj=>by rw[<-e j hj];exact h.2 j hj⟩
theorem FRow.below{A B}{blk off n}{g}(h:FRow A blk off n g)(hb:Below A.heap.size A B):FRow B blk off n g:=
 ⟨Nat.lt_of_lt_of_le h.1 hb.size,fun j hj=>⟨(hb.cell (p:=⟨blk,off+j,none⟩) h.1).trans (h.2 j hj).1,(hb.frozen (p:=⟨blk,off+j,none⟩) h.1).trans (h.2 j hj).2⟩⟩
theorem grown_frozen{A B:World}{r b o}(hb:A.grownBy B (some r))(hl:b<A.heap.size)(hn:b≠r):B.frozen? ⟨b,o,none⟩=A.frozen? ⟨b,o,none⟩:=by unfold World.frozen?;rw[hb.block b hl (fun e=>hn (by injection e))]
theorem FRow.grown{A B}{blk off n r}{g}(h:FRow A blk off n g)(hb:A.grownBy B (some r))(hn:blk≠r):FRow B blk off n g:=
 ⟨Nat.lt_of_lt_of_le h.1 hb.size,fun j hj=>⟨hb.cell (h.2 j hj).1 (by simpa using hn),(grown_frozen hb h.1 hn).trans (h.2 j hj).2⟩⟩
theorem WRow.other{W}{blk off n}{a b c}(h:WRow W blk off n a b c) r o  v (hb:r≠blk):WRow (W.setCell ⟨r,o,none⟩ v) blk off n a b c:=by have k:∀p,(W.setCell ⟨r,o,none⟩ v).cell? ⟨blk,p,none⟩=W.cell? ⟨blk,p,none⟩:=fun p=>World.cell?_setCell_other _ _ _ _ (fun e=>hb (by injection e with e1 e2));refine⟨by simpa using h.1,fun j hj=>by rw[k,k,k];exact h.2 j hj⟩
theorem IRow.other{W}{blk off}{d}(h:IRow W blk off d) b o  v (hb:b≠blk):IRow (W.setCell ⟨b,o,none⟩ v) blk off d:=by refine⟨by simpa using h.1,fun k hk=>?_⟩;simp only[World.frozen?_setCell];refine⟨?_,(h.2 k hk).2⟩;rw[World.cell?_setCell_other _ _ _ _ (fun e=>hb (by injection e with e1 e2)),(h.2 k hk).1]
theorem sorted_nums{Q}(hq:Q.Nodup):∃A,((nums Q).mergeSort fun x y=>decide (x≤y))=nums A∧A.Perm Q∧A.Pairwise (·<·):=by
 obtain⟨A,hA,hp⟩:=nums_perm (List.mergeSort_perm (nums Q) fun x y=>decide (x≤y));refine⟨A,hA,hp,?_⟩;have hs:(nums A).Pairwise (fun x y=>decide (x≤y)=true):=by rw[<-hA];exact List.pairwise_mergeSort (fun a b c h1 h2=>by simp at*;omega) (fun a b=>by simp;omega) _
 unfold nums at hs;rw[List.pairwise_map]at hs;have hn:=hp.nodup_iff.2 hq;refine(hs.and hn).imp fun h=>?_;have h1:=h.1;simp at h1;omega
structure DSt(w wr:World)(n lb lo wb wo ob oo B fb:Nat)(Mn Mx Wt g:Nat->Int)(A:List Nat)(L V:Int)(k:Nat):Prop where
 len:FRow wr lb lo n (fun j=>if j∈A.take k then g j+L*Wt j/V else g j)
 frac:FRow wr fb 0 n (fun j=>if j∈A.take k then L*Wt j %V else 0)
 open_:IRow wr ob oo (nums A)
 want:WRow wr wb wo n Mn Mx Wt
 box:wr.cell? ⟨fb+1,0,none⟩=some (Sq fb n n)
 size:fb+1<wr.heap.size
 bel:Below B w wr
theorem nums_at{A}{k}(hk:k<A.length):(nums A)[k]?.getD 0=((A[k]?.getD 0:Nat):Int):=by simp[nums,hk]
theorem takeN_next(A:List Nat) k (hk:k<A.length):A.take (k+1)=A.take k++[A[k]?.getD 0]:=by rw[List.take_succ_eq_append_getElem hk,List.getElem?_eq_getElem hk];rfl
theorem atN_mem{A:List Nat}{k}(hk:k<A.length):A[k]?.getD 0∈A:=by rw[List.getElem?_eq_getElem hk];exact List.getElem_mem hk
theorem atN_notin{A:List Nat}{k}(hA:A.Nodup)(hk:k<A.length):A[k]?.getD 0∉A.take k:=by have h:=hA.sublist (List.take_sublist (k+1) A);rw[takeN_next A k hk,List.nodup_append]at h;exact fun hm=>h.2.2 _ hm _ (by simp) rfl
theorem DSt.next{w wr}{n lb lo wb wo ob oo B fb}{Mn Mx Wt g}{A}{L V}{k}(h:DSt w wr n lb lo wb wo ob oo B fb Mn Mx Wt g A L V k)(hA:A.Nodup)(hk:k<A.length) i (hi:A[k]?.getD 0=i)(hin:i<n)(h1:lb≠ob)(h2:lb≠wb)(h3:lb<fb)(h4:ob<fb)(h5:wb<fb)(hB1:B≤lb)(hB2:B≤fb):
 DSt w ((wr.setCell ⟨lb,lo+i,none⟩ (Iq (g i+L*Wt i/V))).setCell ⟨fb,0+i,none⟩ (Iq (L*Wt i %V))) n lb lo wb wo ob oo B fb Mn Mx Wt g A L V (k+1):=by
 have ht:=takeN_next A k hk;have hni:=atN_notin hA hk;rw[hi]at ht hni;have hm:∀j,j∈A.take (k+1)↔j∈A.take k∨j=i:=fun j=>by rw[ht];simp
 refine⟨?_,?_,?_,?_,?_,?_,?_⟩
 ·refine((h.len.set i (g i+L*Wt i/V) hin).other _ _ _ (by omega)).congr fun j hj=>?_;unfold upd;by_cases e:j=i;·subst e;rw[if_pos rfl,if_pos ((hm j).2 (.inr rfl))]
  ·rw[if_neg e];dsimp only;by_cases e2:j∈A.take k;·rw[if_pos e2,if_pos ((hm j).2 (.inl e2))]
   ·rw[if_neg e2,if_neg (fun h=>by rcases(hm j).1 h with h|h;exact e2 h;exact e h)]
 ·refine((h.frac.other lb (lo+i) (Iq (g i+L*Wt i/V)) (by omega)).set i _ hin).congr fun j hj=>?_;unfold upd;by_cases e:j=i;·subst e;rw[if_pos rfl,if_pos ((hm j).2 (.inr rfl))]
  ·rw[if_neg e];dsimp only;by_cases e2:j∈A.take k;·rw[if_pos e2,if_pos ((hm j).2 (.inl e2))]
   ·rw[if_neg e2,if_neg (fun h=>by rcases(hm j).1 h with h|h;exact e2 h;exact e h)]
 ·exact(h.open_.other _ _ _ h1).other _ _ _ (by omega)
 ·exact(h.want.other _ _ _ h2).other _ _ _ (by omega)
 ·rw[World.cell?_setCell_other _ _ _ _ (fun e=>by injection e with e1 e2;omega),World.cell?_setCell_other _ _ _ _ (fun e=>by injection e with e1 e2;omega)];exact h.box
 ·simpa using h.size
 ·exact(h.bel.setCell hB1 _).setCell hB2 _
theorem DSt.below{w W W'}{n lb lo wb wo ob oo B fb}{Mn Mx Wt g}{A}{L V}{k}(h:DSt w W n lb lo wb wo ob oo B fb Mn Mx Wt g A L V k)(hb:Below W.heap.size W W')(hB:B≤fb):DSt w W' n lb lo wb wo ob oo B fb Mn Mx Wt g A L V k:=
 ⟨h.len.below hb,h.frac.below hb,h.open_.below hb,h.want.below hb,(hb.cell (p:=⟨fb+1,0,none⟩) h.size).trans h.box,Nat.lt_of_lt_of_le h.size hb.size,h.bel.trans (hb.mono (by have:=h.size;omega))⟩
theorem sumL_take{f}{A}(h:∀j∈A,0≤f j) k :sumL f (A.take k)≤sumL f A:=by
 have e:sumL f A=sumL f (A.take k)+sumL f (A.drop k):=by rw[<-sumL_append,List.take_append_drop]
 have:0≤sumL f (A.drop k):=sumL_nonneg fun j hj=>h j (List.mem_of_mem_drop hj);omega
structure ESt(w wr:World)(n lb lo ob oo B:Nat)(h:Nat->Int)(S:List Nat)(k:Nat):Prop where
 len:FRow wr lb lo n (fun j=>if j∈S.take k then h j+1 else h j)
 open_:IRow wr ob oo (nums S)
 bel:Below B w wr
theorem ESt.next{w wr}{n lb lo ob oo B}{h}{S}{k}(H:ESt w wr n lb lo ob oo B h S k)(hS:S.Nodup)(hk:k<S.length) i (hi:S[k]?.getD 0=i)(hin:i<n)(h1:lb≠ob)(hB1:B≤lb):
 ESt w (wr.setCell ⟨lb,lo+i,none⟩ (Iq (h i+1))) n lb lo ob oo B h S (k+1):=by
 have ht:=takeN_next S k hk;have hni:=atN_notin hS hk;rw[hi]at ht hni;have hm:∀j,j∈S.take (k+1)↔j∈S.take k∨j=i:=fun j=>by rw[ht];simp
 refine⟨?_,H.open_.other _ _ _ h1,H.bel.setCell hB1 _⟩;refine(H.len.set i (h i+1) hin).congr fun j hj=>?_;unfold upd;by_cases e:j=i;·subst e;rw[if_pos rfl,if_pos ((hm j).2 (.inr rfl))]
 ·rw[if_neg e];dsimp only;by_cases e2:j∈S.take k;·rw[if_pos e2,if_pos ((hm j).2 (.inl e2))]
  ·rw[if_neg e2,if_neg (fun h=>by rcases(hm j).1 h with h|h;exact e2 h;exact e h)]
theorem info3row:(prog.info? 3).map (fun i=>(i.zero,i.size,i.bytes))=some (some (Iq 0),1,8):=by kernel_rfl
theorem dealOut_any n lb lo lc wb wo wc ob oo oc B nq  Mn Mx Wt g  Q  L V  w (hl:FRow w lb lo n g)(hw:WRow w wb wo n Mn Mx Wt)(ho:IRow w ob oo (nums Q))
 (h1:lb≠ob) (h2:lb≠wb) (h3:wb≠ob) (hB1:B≤lb) (hB2:B≤ob) (hB3:B≤w.heap.size) (hQ:Q.Nodup) (hQn:∀j∈Q,j<n) (hne:Q≠[]) (hnq:Q.length=nq) (hqn1:nq≤1073741824) (hqc:nq≤oc) (hoc:oc≤maxLen)
 (hn:n≤1073741824) (hL:0≤L∧L≤1073741824) (hV:V=sumL Wt Q) (hV1:0<V∧V≤1152921504606846976) (hWt:∀j,0≤Wt j∧Wt j≤1073741824) (hg:∀j,0≤g j∧g j≤1073741824):
 Calls prog 189 #[.slice (some ⟨lb,lo,none⟩) n lc,.slice (some ⟨wb,wo,none⟩) n wc,.slice (some ⟨ob,oo,none⟩) nq oc,Iq L,Iq V] w fun e w'=>e=.returned (.tuple #[])∧
  ∃(S:List Nat) (m:Nat),S.Perm Q∧S.Pairwise (fun i k=>L*Wt k %V<L*Wt i %V∨(L*Wt i %V=L*Wt k %V∧i<k))∧(m:Int)=L-sumL (fun j=>L*Wt j/V) S∧
   FRow w' lb lo n (fun j=>if j∈S then g j+L*Wt j/V+(if j∈S.take m then 1 else 0)else g j)∧Below B w w':=by
 have CS:=qH<|
  slicesSort_any (nums Q) ob oo oc nq w ho (by rw[nums_len];exact hnq) (by omega);have HL:=qH<|hl;have HW:=qH<|hw;have HQN:=qH<|hQn;have HQ:Hid Q.Nodup:=hQ;have HV:=qH<|hV;have HWT:=qH<|hWt;have HG:=qH<|hg;have HNQ:=qH<|hnq;have hL1:=hL.1;have hL2:=hL.2;have hV2:=hV1.1;have hV3:=hV1.2;have hzl:=hl.1;have hzw:=hw.1;have hzo:=ho.1;have hmk:=run_make_row' (P:=prog) 67 3 (Iq 0) 8 underlying67 info3row rfl .i64 .i64 n (by omega) (by omega);clear hl hw ho hQn hQ hV hWt hg hnq hL hV1;go_enter func189,ntmps189;go_wp2_with fail;refine CS.mono ?_;rintro e w1 ⟨rfl,hr1,hg1⟩;obtain⟨A,hA,hAp,hAs⟩:=sorted_nums HQ;rw[hA]at hr1;have hz1:=hg1.size;have HR1:=qH<|hr1;have HL1:=qH<|HL.grown hg1 h1;have HW1:=qH<|HW.grown hg1 h3;have HB1:=qH<|(Below.refl B w).grown hg1 hB3 (fun q hq=>by injection hq with hq;omega);have HAp:=qH<|hAp;have HAs:=qH<|hAs;go_wp2;obtain⟨fb,hfb⟩:=nmd w1.heap.size;rw[hfb];have D0:Hid (DSt w ((w1.alloc (.cells (madeCells #[Iq 0] n) 3)).alloc (.cells #[Sq fb n n] 67)) n lb lo wb wo ob oo B fb Mn Mx Wt g A L V 0):=by
  have b1:Below w1.heap.size w1 ((w1.alloc (.cells (madeCells #[Iq 0] n) 3)).alloc (.cells #[Sq fb n n] 67)):=((Below.refl _ w1).alloc (Nat.le_refl _) _).alloc (by simp) _;refine⟨(HL1.below b1).congr fun j _=>by simp,?_,HR1.below b1,HW1.below b1,?_,by simp;omega,HB1.trans (b1.mono (by omega))⟩
  ·refine⟨by simp;omega,fun j hj=>⟨?_,?_⟩⟩;·rw[World.cell?_alloc_past _ _ _ (by simp;omega),World.cell?_alloc_at _ _ _ _ hfb.symm];simp[madeCells,hj,Nat.mod_one]
   ·rw[World.frozen?_alloc_past _ _ _ (by simp;omega),World.frozen?_alloc_at _ _ _ _ hfb.symm]
  ·rw[World.cell?_alloc_at _ _ _ _ (by simp;omega)];rfl
 have hlb:lb<fb:=by omega
 have hwb:wb<fb:=by omega
 have hob:ob<fb:=by omega
 have HAl:=qH<|HAp.length_eq.trans HNQ;have HAn:Hid A.Nodup:=HAp.nodup_iff.2 HQ;have HVA:=qH<|HV.trans (sumL_perm HAp.symm);have hBf:B≤fb:=by omega
 go_loopw[10,25] (fun ms i wr=>∃(k:Nat) (mi:Int),ms=Iq mi∧i=Iq k∧k≤nq∧0≤mi∧mi≤L∧Hid (mi=L-sumL (fun j=>L*Wt j/V) (A.take k))∧Hid (DSt w wr n lb lo wb wo ob oo B fb Mn Mx Wt g A L V k)) (fun _ i _=>nq-(intOf i).toNat);case atStart=>exact⟨0,L,rfl,rfl,Nat.zero_le _,by omega,by omega,by simp[Hid,sumL],D0⟩
 case round=>
  obtain⟨k,mi,rfl,rfl,hk,hm1,hm2,HM,HD⟩:=hrel;by_cases hlt:k<nq
  ·have hlt':(k:Int)<(nq:Int):=by omega
   have hd:=HD.out;have hkA:k<A.length:=by rw[HAl.out];exact hlt
   obtain⟨i,hi⟩:=nmd (A[k]?.getD 0);have hin:=HQN i (HAp.mem_iff.1 (by rw[<-hi];exact atN_mem hkA));obtain⟨x,hx⟩:=nmd (Wt i);obtain⟨gi,hgi⟩:=nmd (g i);have hxb:=HWT i;have hgb:=HG i;rw[hx]at hxb;rw[hgi]at hgb;have co:wr.cell? ⟨ob,oo+k,none⟩=some (Iq (i:Int)):=by rw[(hd.open_.2 k (by rw[nums_len];exact hkA)).1,nums_at hkA,hi]
   have cw:wr.cell? ⟨wb,wo+i*3+2,none⟩=some (Iq x):=by rw[(hd.want.2 i hin).2.2,hx]
   have hnot:i∉A.take k:=by rw[<-hi];exact atN_notin HAn hkA
   have cl1:wr.cell? ⟨lb,lo+i,none⟩=some (Iq gi):=by rw[(hd.len.2 i hin).1];dsimp only;rw[if_neg hnot,hgi]
   have fl1:=(hd.len.2 i hin).2;have cf1:wr.cell? ⟨fb,i,none⟩=some (Iq 0):=by have:=(hd.frac.2 i hin).1;dsimp only at this;rw[if_neg hnot,Nat.zero_add]at this;exact this
   have ff1:wr.frozen? ⟨fb,i,none⟩=false:=by have:=(hd.frac.2 i hin).2;rw[Nat.zero_add]at this;exact this
   have cb:=hd.box;have hsz:=hd.size;obtain⟨p,hp⟩:=nmd (L*x);have hp0:0≤p:=by rw[<-hp];exact Int.mul_nonneg hL1 hxb.1
   have hp1:p≤1152921504606846976:=by rw[<-hp];exact Int.le_trans (Int.mul_le_mul hL2 hxb.2 hxb.1 (by omega)) (by decide)
   have hx1:=hxb.1;have hx2:=hxb.2;have hg1:=hgb.1;have hg2:=hgb.2;obtain⟨q,hq⟩:=nmd (p/V);obtain⟨r,hr⟩:=nmd (p %V);have hq0:0≤q:=by rw[<-hq];exact Int.ediv_nonneg hp0 (by omega)
   have hq1:q≤p:=by rw[<-hq];exact Int.ediv_le_self _ hp0
   have hr0:0≤r:=by rw[<-hr];exact Int.emod_nonneg _ (by omega)
   have hr1:r<V:=by rw[<-hr];exact Int.emod_lt_of_pos _ hV2
   have htd:p.tdiv V=q:=by rw[Int.tdiv_eq_ediv_of_nonneg hp0,hq]
   have htm:p.tmod V=r:=by rw[Int.tmod_eq_emod_of_nonneg hp0,hr]
   have HNx:Hid (DSt w ((wr.setCell ⟨lb,lo+i,none⟩ (Iq (gi+q))).setCell ⟨fb,0+i,none⟩ (Iq r)) n lb lo wb wo ob oo B fb Mn Mx Wt g A L V (k+1)):=by have:=HD.next HAn hkA i hi hin h1 h2 hlb hob hwb hB1 hBf;rw[hgi,hx,hp,hq,hr]at this;exact this
   have HMx:Hid (mi-q=L-sumL (fun j=>L*Wt j/V) (A.take (k+1))):=by show _=_;rw[takeN_next A k hkA,sumL_snoc,hi];have:=HM.out;rw[hx,hp,hq];omega
   have hmq:0≤mi-q:=by rw[HMx.out];have t1:=sumL_take (f:=fun j=>L*Wt j/V) (A:=A) (fun j _=>Int.ediv_nonneg (Int.mul_nonneg hL1 (HWT j).1) (by omega)) (k+1);have t2:=(missing_bd (L:=L) HVA hV2).1;omega
   have w1:IntKind.i64.wrap (gi+q)=gi+q:=IntWalk.i64_in _ ⟨by omega,by omega⟩;have w2:IntKind.i64.wrap q=q:=IntWalk.i64_in _ ⟨by omega,by omega⟩;have w3:IntKind.i64.wrap r=r:=IntWalk.i64_in _ ⟨by omega,by omega⟩;have w4:IntKind.i64.wrap p=p:=IntWalk.i64_in _ ⟨by omega,by omega⟩;have hVne:V≠0:=by omega
   clear hd hxb hgb hnot hx hgi hi HM HD;go_wp2_with fail;go_big_region;go_wp2_with fail;go_big_region;go_wp2;go_roundw;case rel=>refine⟨k+1,mi-q,rfl,by go_num,by omega,by omega,by omega,HMx,?_⟩;have:=HNx.out;rw[Nat.zero_add]at this;exact this.below ⟨rfl,rfl,rfl,by simp,fun _ _=>rfl⟩ hBf
   case measure=>simp[intOf];omega
  ·have hge:¬(k:Int)<(nq:Int):=by omega
   obtain rfl:k=nq:=by omega
   have hd:=HD.out;have htk:=List.take_of_length_le (by rw[HAl.out];omega);obtain⟨fr,hfr⟩:∃fr:Nat->Int,(fun j=>if j∈A.take k then L*Wt j %V else 0)=fr:=⟨_,rfl⟩;obtain⟨hh,hhh⟩:∃hh:Nat->Int,(fun j=>if j∈A.take k then g j+L*Wt j/V else g j)=hh:=⟨_,rfl⟩;have hlen:=hd.len;have hfrac:=hd.frac;rw[hhh]at hlen;rw[hfr]at hfrac;have hF:∀j,j<n->((List.range n).map fr)[j]?.getD 0=fr j:=fun j hj=>by simp[hj]
   have hFl:((List.range n).map fr).length=n:=by simp
   have hsA:=fun j hj=>HQN j (HAp.mem_iff.1 hj);have HS:Hid (Calls prog 209 #[.slice (some ⟨ob,oo,none⟩) k oc,.func (.func 213) #[] #[Pq (fb+1)]] wr fun e w'=>e=.returned (.tuple #[])∧Sorted wr w' ob oo (RFrac (fun x=>((List.range n).map fr)[x.toNat]?.getD 0)) [] (nums A) []):=by
    refine sortStable_any 213 #[Pq (fb+1)] (enters_of func213 (by kernel_rfl) rfl) (fun i k=>cmpI (((List.range n).map fr)[k.toNat]?.getD 0) (((List.range n).map fr)[i.toNat]?.getD 0)) (nums A) (RFrac (fun x=>((List.range n).map fr)[x.toNat]?.getD 0)) (ord_frac _ _) wr ob oo oc ?_ (nums A) wr k (grown_refl _ _) hd.open_ (fun x hx=>hx) (nums_asc HAs) (by rw[nums_len];exact HAl) (by omega);refine cmpG_frac _ (fb+1) fb 0 n ob wr (by rw[hFl];exact hd.box) (fun j hj=>?_) _ ?_ (by omega) (by omega) (by omega);·rw[hFl]at hj;rw[hF j hj];exact(hfrac.2 j hj).1
    ·intro x hx;obtain⟨j,rfl,hj⟩:=nums_mem hx;exact⟨j,rfl,by rw[hFl];exact hsA j hj⟩
   have HFin:Hid (∀w2,Sorted wr w2 ob oo (RFrac (fun x=>((List.range n).map fr)[x.toNat]?.getD 0)) [] (nums A) []->∃S:List Nat,S.Perm A∧S.Pairwise (fun i k=>L*Wt k %V<L*Wt i %V∨(L*Wt i %V=L*Wt k %V∧i<k))∧ESt w w2 n lb lo ob oo B hh S 0∧wr.heap.size≤w2.heap.size):=by
    rintro w2 ⟨⟨M,hp,hpw,hr2⟩,hgr⟩;obtain⟨S,rfl,hs⟩:=nums_perm hp;refine⟨S,hs,?_,⟨?_,by simpa using hr2,?_⟩,hgr.size⟩
    ·unfold nums at hpw;rw[List.pairwise_map]at hpw;refine List.Pairwise.imp_of_mem ?_ hpw;intro i j hi hj h;have hiA:=hs.mem_iff.1 hi;have hjA:=hs.mem_iff.1 hj;simp only[RFrac,Int.toNat_natCast,hF i (hsA i hiA),hF j (hsA j hjA)]at h;rw[<-hfr]at h;dsimp only at h;rw[htk,if_pos hiA,if_pos hjA]at h;rcases h with h|⟨h,h'⟩;·exact .inl h
     ·exact .inr ⟨h,by omega⟩
    ·exact(hlen.grown hgr h1).congr fun j _=>by simp
    ·exact hd.bel.grown hgr (by have:=hd.size;omega) (fun q hq=>by injection hq with hq;omega)
   obtain⟨m,hm⟩:∃m:Nat,mi=(m:Int):=⟨mi.toNat,by omega⟩;subst hm;have hmq:(m:Int)<(k:Int):=by have:=(missing_bd (L:=L) HVA hV2).2;have e:=HM.out;rw[htk]at e;rw[<-e,HAl.out]at this;omega
   have HMA:Hid ((m:Int)=L-sumL (fun j=>L*Wt j/V) A):=by have:=HM.out;rw[htk]at this;exact this
   have HHH:Hid (∀j,hh j=if j∈A then g j+L*Wt j/V else g j):=fun j=>by rw[<-hhh];dsimp only;rw[htk]
   have hhb:Hid (∀j,0≤hh j∧hh j≤2305843009213693952):=fun j=>by rw[HHH j];have a1:=HG j;have a2:=HWT j;have a3:=Int.mul_nonneg hL1 a2.1;have a4:L*Wt j≤1152921504606846976:=Int.le_trans (Int.mul_le_mul hL2 a2.2 a2.1 (by omega)) (by decide);have a5:0≤L*Wt j/V:=Int.ediv_nonneg a3 (by omega);have a6:L*Wt j/V≤L*Wt j:=Int.ediv_le_self _ a3;split<;>omega
   have hsz:=hd.size;have hmc:(m:Int)≤(oc:Int):=by omega
   clear hd hlen hfrac hhh hfr htk hF hFl HM HD;go_wp2_with fail;refine HS.mono ?_;rintro e w2 ⟨rfl,hS⟩;obtain⟨S,hS1,hS2,hS3,hS4⟩:=HFin w2 hS;have HSp:=qH<|hS1;have HSs:=qH<|hS2;have HE:=qH<|hS3;clear hS hS1 hS2 hS3 HFin HS;go_wp2;go_loopw[64] (fun i wr=>∃c:Nat,i=Iq c∧c≤m∧Hid (ESt w wr n lb lo ob oo B hh S c)) (fun i _=>m-(intOf i).toNat);case atStart=>exact⟨0,rfl,Nat.zero_le _,HE⟩
   case round=>
    obtain⟨c,rfl,hc,HEc⟩:=hrel;have hSl:=HSp.length_eq.trans HAl;by_cases hlt:c<m
    ·have hlt':(c:Int)<(m:Int):=by omega
     have hd:=HEc.out;have hcS:c<S.length:=by omega
     obtain⟨i,hi⟩:=nmd (S[c]?.getD 0);have hin:i<n:=by have:=atN_mem hcS;rw[hi]at this;exact HQN i (HAp.mem_iff.1 (HSp.mem_iff.1 this))
     have hin':(i:Int)<(n:Int):=by omega
     have hSn:=HSp.nodup_iff.2 HAn;have co:wr.cell? ⟨ob,oo+c,none⟩=some (Iq (i:Int)):=by rw[(hd.open_.2 c (by rw[nums_len];exact hcS)).1,nums_at hcS,hi]
     obtain⟨y,hy⟩:=nmd (hh i);have hyb:=hhb i;rw[hy]at hyb;have hy1:=hyb.1;have hy2:=hyb.2;have hnot:i∉S.take c:=by rw[<-hi];exact atN_notin hSn hcS
     have cl1:wr.cell? ⟨lb,lo+i,none⟩=some (Iq y):=by rw[(hd.len.2 i hin).1];dsimp only;rw[if_neg hnot,hy]
     have fl1:=(hd.len.2 i hin).2;have HNx:Hid (ESt w (wr.setCell ⟨lb,lo+i,none⟩ (Iq (y+1))) n lb lo ob oo B hh S (c+1)):=by have:=hd.next hSn hcS i hi hin h1 hB1;rw[hy]at this;exact this
     clear hd hyb hnot hi hy hSn hSl HEc;go_wp2;go_roundw;case rel=>exact⟨c+1,by go_num,by omega,HNx⟩
     case measure=>simp[intOf];omega
    ·have hge:¬(c:Int)<(m:Int):=by omega
     obtain rfl:c=m:=by omega
     have HZ:Hid (∃(S:List Nat) (m:Nat),S.Perm Q∧S.Pairwise (fun i k=>L*Wt k %V<L*Wt i %V∨(L*Wt i %V=L*Wt k %V∧i<k))∧(m:Int)=L-sumL (fun j=>L*Wt j/V) S∧
      FRow wr lb lo n (fun j=>if j∈S then g j+L*Wt j/V+(if j∈S.take m then 1 else 0)else g j)∧Below B w wr):=by
      refine⟨S,c,HSp.trans HAp,HSs,HMA.trans (by rw[sumL_perm HSp.out]),HEc.len.congr fun j hj=>?_,HEc.bel⟩;have hh1:=HHH j;have hmem:j∈S↔j∈A:=HSp.mem_iff;by_cases e:j∈S;·rw[if_pos (hmem.1 e)]at hh1;rw[if_pos e,hh1];split<;>omega
      ·rw[if_neg (fun h=>e (hmem.2 h))]at hh1;rw[if_neg e,if_neg (fun h=>e (List.mem_of_mem_take h)),hh1]
     clear hSl HEc;go_wp2;go_end0;obtain⟨S',m',z1,z2,z3,z4,z5⟩:=HZ.out;exact⟨rfl,S',z1,z2,m',z3,z4,z5⟩
structure PSt(w wr:World)(n lb lo wb wo g B:Nat)(Mn Mx Wt:Nat->Int)(Q:List Nat)(c:Nat):Prop where
 len:FRow wr lb lo n (fun j=>if j∈Q.take c then Mx j else Mn j)
 want:WRow wr wb wo n Mn Mx Wt
 open_:IRow wr g 0 (nums Q)
 bel:Below B w wr
theorem PSt.below{w W W'}{n lb lo wb wo g B}{Mn Mx Wt}{Q}{c}(h:PSt w W n lb lo wb wo g B Mn Mx Wt Q c)(hb:Below W.heap.size W W')(hB:B≤w.heap.size):PSt w W' n lb lo wb wo g B Mn Mx Wt Q c:=
 ⟨h.len.below hb,h.want.below hb,h.open_.below hb,h.bel.trans (hb.mono (Nat.le_trans hB h.bel.size))⟩
theorem PSt.next{w wr}{n lb lo wb wo g B}{Mn Mx Wt}{Q}{c}(H:PSt w wr n lb lo wb wo g B Mn Mx Wt Q c)(hQ:Q.Nodup)(hk:c<Q.length) i (hi:Q[c]?.getD 0=i)(hin:i<n)(h1:lb≠g)(h2:lb≠wb)(hB1:B≤lb):
 PSt w (wr.setCell ⟨lb,lo+i,none⟩ (Iq (Mx i))) n lb lo wb wo g B Mn Mx Wt Q (c+1):=by
 have ht:=takeN_next Q c hk;have hni:=atN_notin hQ hk;rw[hi]at ht hni;have hm:∀j,j∈Q.take (c+1)↔j∈Q.take c∨j=i:=fun j=>by rw[ht];simp
 refine⟨?_,H.want.other _ _ _ h2,H.open_.other _ _ _ h1,H.bel.setCell hB1 _⟩;refine(H.len.set i (Mx i) hin).congr fun j hj=>?_;unfold upd;by_cases e:j=i;·subst e;rw[if_pos rfl,if_pos ((hm j).2 (.inr rfl))]
 ·rw[if_neg e];dsimp only;by_cases e2:j∈Q.take c;·rw[if_pos e2,if_pos ((hm j).2 (.inl e2))]
  ·rw[if_neg e2,if_neg (fun h=>by rcases(hm j).1 h with h|h;exact e2 h;exact e h)]
structure PNum(Mn Mx Wt:Nat->Int)(Q:List Nat)(L0:Int)(c:Nat)(L V:Int):Prop where
 left:L=L0-sumL (fun j=>Mx j-Mn j) (Q.take c)
 pos:0≤L
 weight:V=sumL Wt (Q.drop c)
 full:∀j∈Q.take c,(Mx j-Mn j)*V≤L*Wt j
theorem dropN_next(A:List Nat) k (hk:k<A.length):A.drop k=(A[k]?.getD 0)::A.drop (k+1):=by rw[List.getElem?_eq_getElem hk];exact List.drop_eq_getElem_cons hk
theorem split_at{R}{Q:List Nat}(h:Q.Pairwise R){c}(hc:c<Q.length):(∀j∈Q.take c,R j (Q[c]?.getD 0))∧(∀k∈Q.drop (c+1),R (Q[c]?.getD 0) k):=by
 have e:Q=Q.take c++((Q[c]?.getD 0)::Q.drop (c+1)):=by rw[<-dropN_next Q c hc,List.take_append_drop]
 have h':(Q.take c++((Q[c]?.getD 0)::Q.drop (c+1))).Pairwise R:=by rw[<-e];exact h
 rw[List.pairwise_append]at h';refine⟨fun j hj=>h'.2.2 j hj _ (by simp),?_⟩;exact(List.pairwise_cons.1 h'.2.1).1
theorem PNum.next{Mn Mx Wt}{Q}{L0}{c}{L V}(h:PNum Mn Mx Wt Q L0 c L V)(hm:∀j,0≤Mx j-Mn j)(hs:Q.Pairwise (RFl Mn Mx Wt))(hw:∀j∈Q,0<Wt j)(hc:c<Q.length) i (hi:Q[c]?.getD 0=i)(hle:(Mx i-Mn i)*V≤L*Wt i):PNum Mn Mx Wt Q L0 (c+1) (L-(Mx i-Mn i)) (V-Wt i):=by
 have h1:=split_at hs hc;rw[hi]at h1;have hd:=dropN_next Q c hc;rw[hi]at hd;have ht:=takeN_next Q c hc;rw[hi]at ht;have hwi:=hw i (by rw[<-hi];exact atN_mem hc);have hV:V=sumL Wt (i::Q.drop (c+1)):=by rw[<-hd];exact h.weight
 have:=full_next (A:=Q.take c) (B:=Q.drop (c+1)) (i:=i) (L:=L) (W:=V) hm (fun j hj=>⟨hw j (List.mem_of_mem_take hj),h1.1 j hj⟩) hwi (fun j hj=>hw j (List.mem_of_mem_drop hj)) hV hle;refine⟨?_,this.1,?_,?_⟩;·have e:=h.left;rw[ht,sumL_snoc];omega
 ·rw[sumL_cons]at hV;omega
 ·rw[ht];exact this.2
theorem PNum.stop{Mn Mx Wt}{Q}{L0}{c}{L V}(h:PNum Mn Mx Wt Q L0 c L V)(hs:Q.Pairwise (RFl Mn Mx Wt))(hw:∀j∈Q,0<Wt j)(hc:c<Q.length) i (hi:Q[c]?.getD 0=i)(hgt:L*Wt i<(Mx i-Mn i)*V):0<V∧∀k∈Q.drop c,L*Wt k<(Mx k-Mn k)*V:=by
 have h1:=split_at hs hc;rw[hi]at h1;have hd:=dropN_next Q c hc;rw[hi]at hd;have hwi:=hw i (by rw[<-hi];exact atN_mem hc);have hV:V=Wt i+sumL Wt (Q.drop (c+1)):=by rw[<-sumL_cons,<-hd];exact h.weight
 have h0:0≤sumL Wt (Q.drop (c+1)):=sumL_nonneg fun j hj=>Int.le_of_lt (hw j (List.mem_of_mem_drop hj));refine⟨by omega,?_⟩;rw[hd];exact none_full hwi (by omega) (fun k hk=>⟨hw k (List.mem_of_mem_drop hk),h1.2 k hk⟩) hgt
theorem PNum.poured_all{Mn Mx Wt}{Q}{n}{r L V}(h:PNum Mn Mx Wt Q (r-sumL Mn (List.range n)) Q.length L V)(hp:Q.Perm (heavy Wt n)):Poured n Mn Mx Wt r (fun j=>if j∈Q then Mx j else Mn j) Q [] L V 0:=by
 have e:Q.take Q.length=Q:=List.take_length;refine⟨by rw[List.append_nil];exact hp,?_,h.pos,by have:=h.weight;simpa using this,by have:=h.full;rwa[e]at this,by simp,fun h=>(h rfl).elim,fun _=>rfl,List.Pairwise.nil,fun j hj=>?_⟩;·have:=h.left;rw[e]at this;exact this
 ·by_cases e:j∈Q<;>simp[e]
theorem PNum.poured_some{Mn Mx Wt}{Q}{n c}{r L V}(h:PNum Mn Mx Wt Q (r-sumL Mn (List.range n)) c L V)(hp:Q.Perm (heavy Wt n)) S (m:Nat)(hS:S.Perm (Q.drop c))(ho:∀k∈Q.drop c,L*Wt k<(Mx k-Mn k)*V)(hne:Q.drop c≠[])(hm:(m:Int)=L-sumL (fun j=>L*Wt j/V) S)
 (hs:S.Pairwise (fun i k=>L*Wt k %V<L*Wt i %V∨(L*Wt i %V=L*Wt k %V∧i<k))):
 Poured n Mn Mx Wt r (fun j=>if j∈S then(if j∈Q.take c then Mx j else Mn j)+L*Wt j/V+(if j∈S.take m then 1 else 0)else(if j∈Q.take c then Mx j else Mn j)) (Q.take c) S L V m:=by
 have hpp:(Q.take c++S).Perm Q:=by
  conv=>rhs;rw[<-List.take_append_drop c Q]
  exact List.Perm.append_left _ hS
 have hnd:=hp.nodup_iff.2 (List.nodup_range.filter _);have hdis:∀j∈Q.take c,j∉S:=fun j h1 h2=>by have:=hpp.nodup_iff.2 hnd;rw[List.nodup_append]at this;exact this.2.2 j h1 j h2 rfl
 refine⟨hpp.trans hp,h.left,h.pos,h.weight.trans (sumL_perm hS.symm),h.full,fun j hj=>ho j (hS.mem_iff.1 hj),fun _=>hm,fun e=>(hne (by rw[e]at hS;exact hS.symm.eq_nil)).elim,hs,fun j hj=>?_⟩;by_cases e:j∈Q.take c;·rw[if_neg (hdis j e),if_pos e,if_pos e]
 ·rw[if_neg e,if_neg e]
def PourOut(w w':World)(n lb lo B:Nat)(Mn Mx Wt:Nat->Int)(r:Int):Prop:=
 ∃(a:Nat->Int) (A S:List Nat) (L V:Int) (m:Nat),Poured n Mn Mx Wt r a A S L V m∧FRow w' lb lo n a∧Below B w w'
def slenOfV:Value->Nat
 |.slice _ n _=>n
 |_=>0
theorem pour_any n lb lo lc wb wo wc B  Mn Mx Wt  r L0  w (hl:FRow w lb lo n Mn)(hw:WRow w wb wo n Mn Mx Wt)(h2:lb≠wb)(hB1:B≤lb)(hB3:B≤w.heap.size)(hn:n≤1048576)
    (hM:∀j,0≤Mn j∧Mn j≤Mx j∧Mx j≤1048576∧0≤Wt j∧Wt j≤1048576) (hL:L0=r-sumL Mn (List.range n)) (hL0:0≤L0∧L0≤1073741824):
    Calls prog 170 #[.slice (some ⟨lb,lo,none⟩) n lc,.slice (some ⟨wb,wo,none⟩) n wc,Iq L0] w fun e w'=>e=.returned (.tuple #[])∧PourOut w w' n lb lo B Mn Mx Wt r:=by
  have CO:=qH<|
    order_any n wb wo wc Mn Mx Wt w hw (fun j=>by have:=hM j;omega) (by omega);have HL:=qH<|hl;have HW:=qH<|hw;have HM:=qH<|hM;have HLe:=qH<|hL;have hzl:=hl.1;have hzw:=hw.1;have hL1:=hL0.1;have hL2:=hL0.2;clear hl hw hM hL hL0;go_enter func170,ntmps170;go_wp2_with fail;refine CO.mono ?_;rintro e w1 ⟨v,Q,rfl,hO,hp,hs,hb⟩;have HP:=qH<|hp;have HS:=qH<|hs;have HL1:=qH<|HL.below hb;have HW1:=qH<|HW.below hb;have HB1:=qH<|hb.mono hB3;have HQn:Hid (∀j∈Q,j<n∧0<Wt j):=fun j hj=>heavy_mem (hp.mem_iff.1 hj);have HQd:Hid Q.Nodup:=hp.nodup_iff.2 (List.nodup_range.filter _);rcases hO with⟨hq,rfl⟩|⟨hne,g,cp,rfl,hgB,hqc,hcm,hro⟩
  · have HZ:Hid (PourOut w w1 n lb lo B Mn Mx Wt r):=by
      refine⟨_,Q,[],L0,0,0,PNum.poured_all ⟨?_,hL1,?_,?_⟩ HP,HL1.congr fun j _=>by simp[hq],HB1⟩;·rw[hq];simp[sumL];exact HLe
      ·rw[hq];rfl
      ·rw[hq];simp
    go_wp2;go_loop[7,16] (fun t i=>t=Iq 0∧i=Iq 0) (fun _ _=>0);case atStart=>exact⟨rfl,rfl⟩
    case round=>
      obtain⟨rfl,rfl⟩:=hrel;go_wp2;go_loop[2,6,7] (fun t o v=>t=Iq L0∧o=.slice none 0 0∧v=Iq 0) (fun _ _ _=>0);case atStart=>exact⟨rfl,rfl,rfl⟩
      case round=>obtain⟨rfl,rfl,rfl⟩:=hrel;go_wp2;go_end0;exact⟨rfl,HZ⟩
  · obtain⟨nq,hnq⟩:=nmd Q.length;have HNQ:=qH<|hnq;have HRo:=qH<|hro;have hqn:nq≤n:=by have:=HP.length_eq;have:=heavy_len Wt n;omega
    rw[hnq]at hqc⊢;have hlg:lb≠g:=by omega
    have hwg:wb≠g:=by omega
    have hBg:B≤g:=by omega
    go_wp2;go_loop[7,16] (fun t i=>∃(k:Nat) (s:Int),t=Iq s∧i=Iq k∧k≤nq∧0≤s∧s≤(k:Int)*1048576∧Hid (s=sumL Wt (Q.take k))) (fun _ i=>nq-(intOf i).toNat);case atStart=>exact⟨0,0,rfl,rfl,Nat.zero_le _,by omega,by omega,by simp[Hid,sumL]⟩
    case round=>
      obtain⟨k,s,rfl,rfl,hk,hs0,hs1,HSm⟩:=hrel;by_cases hlt:k<nq
      · have hlt':(k:Int)<(nq:Int):=by omega
        have hkQ:k<Q.length:=by rw[HNQ.out];exact hlt
        obtain⟨i,hi⟩:=nmd (Q[k]?.getD 0);have hin:=(HQn i (by rw[<-hi];exact atN_mem hkQ)).1;obtain⟨x,hx⟩:=nmd (Wt i);have hxb:=HM i;rw[hx]at hxb;have hx1:=hxb.2.2.2.1;have hx2:=hxb.2.2.2.2;have co:w1.cell? ⟨g,k,none⟩=some (Iq (i:Int)):=by have:=(HRo.2 k (by rw[nums_len];exact hkQ)).1;rw[nums_at hkQ,hi,Nat.zero_add]at this;exact this
        have cw:w1.cell? ⟨wb,wo+i*3+2,none⟩=some (Iq x):=by rw[(HW1.2 i hin).2.2,hx]
        have HSx:Hid (s+x=sumL Wt (Q.take (k+1))):=by show _=_;rw[takeN_next Q k hkQ,sumL_snoc,hi,hx,HSm.out]
        have hk1:((k+1:Nat):Int)*1048576=(k:Int)*1048576+1048576:=by omega
        clear hxb hi hx HSm;go_wp2;go_round;case rel=>exact⟨k+1,s+x,rfl,by go_num,by omega,by omega,by omega,HSx⟩
        case measure=>simp[intOf];omega
      · have hge:¬(k:Int)<(nq:Int):=by omega
        obtain rfl:nq=k:=by omega
        have N0:Hid (PNum Mn Mx Wt Q (r-sumL Mn (List.range n)) 0 L0 s):=by refine⟨by simp[sumL];exact HLe,hL1,?_,by simp⟩;rw[HSm.out,List.take_of_length_le (by rw[HNQ.out];omega),List.drop_zero]
        have P0:Hid (PSt w w1 n lb lo wb wo g B Mn Mx Wt Q 0):=⟨HL1.congr fun j _=>by simp,HW1,HRo,HB1⟩;clear HSm HL1 HW1 HRo HB1;go_wp2;have hnq40:(nq:Int)*1048576≤1099511627776:=by omega
        go_loopw[2,6,7] (fun l o v wr=>∃(c:Nat) (L V:Int) (p:Option Addr) (d e:Nat),l=Iq L∧o=.slice p d e∧v=Iq V∧c+d=nq∧c+e=cp∧0≤L∧L≤L0∧0≤V∧V≤1099511627776∧Hid (0<d->p=some ⟨g,c,none⟩)∧Hid (PNum Mn Mx Wt Q (r-sumL Mn (List.range n)) c L V)∧Hid (PSt w wr n lb lo wb wo g B Mn Mx Wt Q c)) (fun _ o _ _=>slenOfV o);case atStart=>exact⟨0,L0,s,_,nq,cp,rfl,rfl,rfl,by omega,by omega,hL1,by omega,hs0,by omega,fun _=>rfl,N0,P0⟩
        case round=>
          obtain⟨c,L,V,p,d,e,rfl,rfl,rfl,hcd,hce,hL3,hL4,hV3,hV4,HPp,HN,HPS⟩:=hrel;by_cases hd:0<d
          · have hd':(0:Int)<(d:Int):=by omega
            obtain rfl:=HPp hd;have hps:=HPS.out;have hcQ:c<Q.length:=by rw[HNQ.out];omega
            obtain⟨i,hi⟩:=nmd (Q[c]?.getD 0);have hiQ:i∈Q:=by rw[<-hi];exact atN_mem hcQ
            have hin:=(HQn i hiQ).1;have hin':(i:Int)<(n:Int):=by omega
            obtain⟨x,hx⟩:=nmd (Wt i);obtain⟨mn,hmn⟩:=nmd (Mn i);obtain⟨mx,hmx⟩:=nmd (Mx i);have hxb:=HM i;rw[hx,hmn,hmx]at hxb;obtain⟨hb1,hb2,hb3,hb4,hb5⟩:=hxb;have co:wr.cell? ⟨g,c,none⟩=some (Iq (i:Int)):=by have:=(hps.open_.2 c (by rw[nums_len];exact hcQ)).1;rw[nums_at hcQ,hi,Nat.zero_add]at this;exact this
            have cw0:wr.cell? ⟨wb,wo+i*3,none⟩=some (Iq mn):=by rw[(hps.want.2 i hin).1,hmn]
            have cw1:wr.cell? ⟨wb,wo+i*3+1,none⟩=some (Iq mx):=by rw[(hps.want.2 i hin).2.1,hmx]
            have cw2:wr.cell? ⟨wb,wo+i*3+2,none⟩=some (Iq x):=by rw[(hps.want.2 i hin).2.2,hx]
            have hnot:i∉Q.take c:=by rw[<-hi];exact atN_notin HQd hcQ
            have cl1:wr.cell? ⟨lb,lo+i,none⟩=some (Iq mn):=by rw[(hps.len.2 i hin).1];dsimp only;rw[if_neg hnot,hmn]
            have fl1:=(hps.len.2 i hin).2;obtain⟨df,hdf⟩:=nmd (mx-mn);have hdf0:0≤df:=by omega
            have hdf1:df≤1048576:=by omega
            obtain⟨pv,hpv⟩:=nmd (df*V);have hpv0:0≤pv:=by rw[<-hpv];exact Int.mul_nonneg hdf0 hV3
            have hpv1:pv≤1152921504606846976:=by rw[<-hpv];exact Int.le_trans (Int.mul_le_mul hdf1 hV4 hV3 (by omega)) (by decide)
            obtain⟨lx,hlx⟩:=nmd (L*x);have hlx0:0≤lx:=by rw[<-hlx];exact Int.mul_nonneg hL3 hb4
            have hlx1:lx≤1125899906842624:=by rw[<-hlx];exact Int.le_trans (Int.mul_le_mul (show L≤1073741824 by omega) hb5 hb4 (by omega)) (by decide)
            have wdf:IntKind.i64.wrap df=df:=IntWalk.i64_in _ ⟨by omega,by omega⟩;by_cases hgt:lx<pv
            · have hst:=HN.stop HS (fun j hj=>(HQn j hj).2) hcQ i hi (by rw[hx,hmx,hmn,hdf,hpv,hlx];exact hgt);have hV0:=hst.1;have hP2:=hps.below (W':=wr.drew) ⟨rfl,rfl,rfl,Nat.le_refl _,fun _ _=>rfl⟩ hB3;have hdl:(Q.drop c).length=d:=by rw[List.length_drop,HNQ.out];omega
              have CD:Hid (Calls prog 189 #[.slice (some ⟨lb,lo,none⟩) n lc,.slice (some ⟨wb,wo,none⟩) n wc,.slice (some ⟨g,c,none⟩) d e,Iq L,Iq V] wr.drew fun e w'=>e=.returned (.tuple #[])∧
                  ∃(S:List Nat) (m:Nat),S.Perm (Q.drop c)∧S.Pairwise (fun i k=>L*Wt k %V<L*Wt i %V∨(L*Wt i %V=L*Wt k %V∧i<k))∧(m:Int)=L-sumL (fun j=>L*Wt j/V) S∧
                    FRow w' lb lo n (fun j=>if j∈S then(if j∈Q.take c then Mx j else Mn j)+L*Wt j/V+(if j∈S.take m then 1 else 0)else(if j∈Q.take c then Mx j else Mn j))∧Below B wr.drew w'):=by
                refine dealOut_any n lb lo lc wb wo wc g c e B d Mn Mx Wt _ (Q.drop c) L V wr.drew hP2.len hP2.want ?_ hlg h2 hwg hB1 hBg (Nat.le_trans hB3 hP2.bel.size) (HQd.sublist (List.drop_sublist _ _)) (fun j hj=>(HQn j (List.mem_of_mem_drop hj)).1) (by intro h;rw[h]at hdl;simp at hdl;omega) hdl (by omega) (by omega) (by omega) (by omega) ⟨hL3,by omega⟩ HN.weight ⟨hV0,by omega⟩ (fun j=>by have:=HM j;omega) (fun j=>by have:=HM j;split<;>omega);refine⟨hP2.open_.1,fun j hj=>?_⟩;rw[nums_len,hdl]at hj;have h1:=hP2.open_.2 (c+j) (by rw[nums_len,HNQ.out];omega);rw[Nat.zero_add]at h1;refine⟨h1.1.trans ?_,h1.2⟩;have e1:nums (Q.drop c)=(nums Q).drop c:=by unfold nums;rw[List.map_drop]
                rw[e1,List.getElem?_drop]
              have HZ:Hid (∀w2,(∃(S:List Nat) (m:Nat),S.Perm (Q.drop c)∧S.Pairwise (fun i k=>L*Wt k %V<L*Wt i %V∨(L*Wt i %V=L*Wt k %V∧i<k))∧(m:Int)=L-sumL (fun j=>L*Wt j/V) S∧
                    FRow w2 lb lo n (fun j=>if j∈S then(if j∈Q.take c then Mx j else Mn j)+L*Wt j/V+(if j∈S.take m then 1 else 0)else(if j∈Q.take c then Mx j else Mn j))∧Below B wr.drew w2)->PourOut w w2 n lb lo B Mn Mx Wt r):=by rintro w2 ⟨S,m,q1,q2,q3,q4,q5⟩;exact⟨_,Q.take c,S,L,V,m,HN.poured_some HP S m q1 hst.2 (by intro h;rw[h]at hdl;simp at hdl;omega) q3 q2,q4,hP2.bel.trans q5⟩
              clear hst hP2 hdl hps hnot hi hx hmn hmx HN HPS;go_wp2_with fail;go_big_region;go_wp2_with fail;refine CD.mono ?_;rintro e2 w2 ⟨rfl,hq⟩;have HF:=qH<|HZ w2 hq;clear hq HZ;go_wp2;go_end0;exact⟨rfl,HF⟩
            · have hNx:=HN.next (fun j=>by have:=HM j;omega) HS (fun j hj=>(HQn j hj).2) hcQ i hi (by rw[hx,hmx,hmn,hdf,hpv,hlx];omega);rw[hx,hmx,hmn,hdf]at hNx;have HNx:=qH<|hNx;have hLd:=hNx.pos;have hVx:0≤V-x:=by rw[hNx.weight];exact sumL_nonneg fun j _=>(HM j).2.2.2.1
              have HPx:Hid (PSt w (wr.setCell ⟨lb,lo+i,none⟩ (Iq (mn+df))) n lb lo wb wo g B Mn Mx Wt Q (c+1)):=by
                have:=hps.next HQd hcQ i hi hin hlg h2 hB1;rw[hmx]at this;have e:mn+df=mx:=by omega
                rw[e];exact this
              have hgt':¬pv>lx:=by omega
              have hde:(1:Int)≤(e:Int):=by omega
              have hdd:(1:Int)≤(d:Int):=by omega
              clear hNx hps hnot hi hx hmn hmx HN HPS;go_wp2_with fail;go_big_region;go_wp2_with fail;refine⟨⟨c+1,L-df,V-x,_,d-1,e-1,rfl,rfl,rfl,by omega,by omega,hLd,by omega,hVx,by omega,?_,HNx,?_⟩,?_⟩;·intro h;rw[if_neg (by omega)]
              ·exact HPx.below ⟨rfl,rfl,rfl,Nat.le_refl _,fun _ _=>rfl⟩ hB3
              ·show d-1<d;omega
          · obtain rfl:d=0:=by omega
            have hcl:c=Q.length:=by rw[HNQ.out];omega
            have HF:Hid (PourOut w wr n lb lo B Mn Mx Wt r):=by have h1:=HN.out;have h2:=HPS.len;rw[hcl]at h1 h2;exact⟨_,Q,[],L,V,0,h1.poured_all HP,h2.congr fun j _=>by rw[List.take_length],HPS.bel⟩
            clear hcl HN HPS;go_wp2;go_end0;exact⟨rfl,HF⟩
def rm(room gap:Int)(n:Nat):Int:=max 0 (cl room-cl gap*((n:Int)-1))
theorem rm_nonneg room gap  n :0≤rm room gap n:=by unfold rm;omega
theorem rm_le room gap  n (hn:0<n):rm room gap n≤100000:=by have h1:=cl_bd room;have h2:0≤cl gap*((n:Int)-1):=Int.mul_nonneg (cl_bd gap).1 (by omega);unfold rm;omega
structure Back(n:Nat)(mn:Nat->Int)(r:Int)(g:Nat->Int):Prop where
 bd:∀j,j<n->0≤g j∧g j≤mn j
 sum:sumL g (List.range n)=r
 behind:∀i k,i<k->k<n->g i<mn i->g k=0
def SplitIs(n:Nat)(mn mx wt:Nat->Int)(r:Int)(g:Nat->Int):Prop:=
 (r<sumL mn (List.range n)∧Back n mn r g)∨(sumL mn (List.range n)≤r∧∃(A S:List Nat) (L V:Int) (m:Nat),Poured n mn mx wt r g A S L V m)
theorem rangeL n (f:Nat->Int) j (hj:j<n):((List.range n).map f)[j]?.getD 0=f j:=by simp[hj]
theorem rangeL_len n (f:Nat->Int):((List.range n).map f).length=n:=by simp
theorem FRow.irow{W}{blk off n}{g}(h:FRow W blk off n g):IRow W blk off ((List.range n).map g):=
 ⟨h.1,fun j hj=>by rw[rangeL_len]at hj;rw[rangeL n g j hj];exact h.2 j hj⟩
theorem IRow.frow{W}{blk off n}{d}(h:IRow W blk off d)(hn:d.length=n):FRow W blk off n (fun j=>d[j]?.getD 0):=
 ⟨h.1,fun j hj=>h.2 j (by omega)⟩
theorem sum_range(d:List Int):sumL (fun j=>d[j]?.getD 0) (List.range d.length)=d.sum:=by unfold sumL;congr 1;refine List.ext_getElem (by simp) fun j h1 h2=>?_;simp[List.getElem?_eq_getElem h2]
theorem back_of n  mn (hm:∀j,0≤mn j) r much (hr:0≤r)(h:much=sumL mn (List.range n)-r)(h0:0≤much):Back n mn r (fun j=>(gb ((List.range n).map mn) n much [])[j]?.getD 0)∧(gb ((List.range n).map mn) n much []).length=n:=by
 have hl:=rangeL_len n mn;have hs:((List.range n).map mn).sum=sumL mn (List.range n):=rfl;have ht:((List.range n).map mn).take n=(List.range n).map mn:=List.take_of_length_le (by omega);obtain⟨X,e,xl,xb,xs,xk,_⟩:=gb_facts ((List.range n).map mn) (fun i hi=>by rw[hl]at hi;rw[rangeL n mn i hi];exact hm i) n much [] (by omega) h0 (by rw[ht,hs];omega);rw[List.append_nil]at e;rw[e];refine⟨⟨fun j hj=>?_,?_,fun i k hik hk hlt=>?_⟩,xl⟩;·have:=xb j hj;rw[rangeL n mn j hj]at this;exact this
 ·have:=sum_range X;rw[xl]at this;rw[this,xs,ht,hs];omega
 ·refine xk i k hik hk ?_;rw[rangeL n mn i (by omega)];exact hlt
def SplitAt(w w':World)(lb n:Nat)(mn mx wt:Nat->Int)(r:Int):Prop:=w.heap.size≤lb∧(∃g,FRow w' lb 0 n g∧SplitIs n mn mx wt r g)∧Below w.heap.size w w'
theorem split_none p  n cap  room gap  w (hn:n=0∨200<n)(hn2:n≤5864062014805):
 Calls prog 140 #[Iq room,Iq gap,.slice p n cap] w fun e w'=>e=.returned (.slice none 0 0)∧w'=w:=by
 rcases hn with rfl|hn;·go_enter func140,ntmps140;go_wp2;go_ret;exact⟨rfl,rfl⟩
 ·have h1:(200:Int)<(n:Int):=by omega
  have h2:(n:Int)≠0:=by omega
  go_enter func140,ntmps140;go_wp2;go_ret;exact⟨rfl,rfl⟩
structure SSt(w wr:World)(cw lb n k:Nat)(mn mx wt:Nat->Int):Prop where
 len:FRow wr lb 0 n (fun j=>if j<k then mn j else 0)
 want:WRow wr cw 0 n mn mx wt
 bel:Below w.heap.size w wr
theorem SSt.next{w wr}{cw lb n k}{mn mx wt}(h:SSt w wr cw lb n k mn mx wt)(hk:k<n)(hne:lb≠cw)(hB:w.heap.size≤lb) o :SSt w ((wr.setCell ⟨lb,0+k,none⟩ (Iq (mn k))).alloc o) cw lb n (k+1) mn mx wt:=by
 have hb:Below (wr.setCell ⟨lb,0+k,none⟩ (Iq (mn k))).heap.size (wr.setCell ⟨lb,0+k,none⟩ (Iq (mn k))) ((wr.setCell ⟨lb,0+k,none⟩ (Iq (mn k))).alloc o):=(Below.refl _ _).alloc (Nat.le_refl _) _;refine⟨((h.len.set k (mn k) hk).below hb).congr fun j hj=>?_,(h.want.other _ _ _ hne).below hb,(h.bel.setCell hB _).trans (hb.mono ?_)⟩
 ·unfold upd;by_cases e:j=k;·subst e;rw[if_pos rfl,if_pos (by omega)]
  ·rw[if_neg e];dsimp only;by_cases e2:j<k;·rw[if_pos e2,if_pos (by omega)]
   ·rw[if_neg e2,if_neg (by omega)]
 ·have:=h.bel.size;simpa using this
theorem split_any n blk off cap  a b c  room gap  w (h:WRow w blk off n a b c)(hn0:0<n)(hn:n≤200):
 Calls prog 140 #[Iq room,Iq gap,.slice (some ⟨blk,off,none⟩) n cap] w fun e w'=>∃lb,e=.returned (Sq lb n n)∧SplitAt w w' lb n (fun j=>cl (a j)) (fun j=>hMax (a j) (b j)) (fun j=>cl (c j)) (rm room gap n):=by
 have CW:=qH<|clampedWants_any n blk off cap a b c w h (by omega);have CC:=qH<|shClamped_any;obtain⟨mn,hmn⟩:∃f:Nat->Int,(fun j=>cl (a j))=f:=⟨_,rfl⟩;obtain⟨mx,hmx⟩:∃f:Nat->Int,(fun j=>hMax (a j) (b j))=f:=⟨_,rfl⟩;obtain⟨wt,hwt⟩:∃f:Nat->Int,(fun j=>cl (c j))=f:=⟨_,rfl⟩;have HM:Hid (∀j,0≤mn j∧mn j≤mx j∧mx j≤100000∧0≤wt j∧wt j≤100000):=fun j=>by rw[<-hmn,<-hmx,<-hwt];have h1:=cl_bd (a j);have h2:=hMax_bd (a j) (b j);have h3:=cl_bd (c j);exact⟨h1.1,h2.1,h2.2,h3.1,h3.2⟩
 rw[hmn,hmx,hwt]at CW⊢;obtain⟨r,hr⟩:=nmd (rm room gap n);have hr0:=rm_nonneg room gap n;have hr1:=rm_le room gap n hn0;rw[hr]at hr0 hr1⊢;unfold rm at hr;obtain⟨cr,hcr⟩:=nmd (cl room);obtain⟨cg,hcg⟩:=nmd (cl gap);have hcrb:=cl_bd room;have hcgb:=cl_bd gap;have C1:=qH<|fun w=>by have:=CC room w;rw[hcr]at this;exact this
 have C2:=qH<|fun w=>by have:=CC gap w;rw[hcg]at this;exact this
 rw[hcr]at hr hcrb;rw[hcg]at hr hcgb;obtain⟨pr,hpr⟩:=nmd (cg*((n:Int)-1));have hpr0:0≤pr:=by rw[<-hpr];exact Int.mul_nonneg hcgb.1 (by omega)
 have hpr1:pr≤20000000:=by rw[<-hpr];exact Int.le_trans (Int.mul_le_mul hcgb.2 (show(n:Int)-1≤200 by omega) (by omega) (by omega)) (by decide)
 rw[hpr]at hr;have hc1:=hcrb.1;have hc2:=hcrb.2;have hc3:=hcgb.1;have hc4:=hcgb.2;have hmk:=run_make_row' (P:=prog) 67 3 (Iq 0) 8 underlying67 info3row rfl .i64 .i64 n (by omega) (by omega);have hn1:¬(n:Int)=0:=by omega
 have hn2:¬(200:Int)<(n:Int):=by omega
 have hn3:((n:Int)==0)=false:=by simpa using hn1
 clear h hmn hmx hwt hcr hcg hcrb hcgb CC;go_enter func140,ntmps140;go_wp2_with(first|(go_at_call 167;refine CW.mono ?_;rintro e w1 ⟨rfl,q1,q2⟩;fail)|(go_at_call 168;refine(C1 _).mono ?_;rintro e w5 ⟨rfl,rfl⟩)|(go_at_call 168;refine(C2 _).mono ?_;rintro e w5 ⟨rfl,rfl⟩));refine CW.mono ?_;rintro e w1 ⟨rfl,q1,q2⟩;have HW1:=qH<|q1;have HB1:=qH<|q2;have hz1:=q1.1;clear q1 q2 CW;go_wp2_with(first|(go_at_call 168;refine(C1 _).mono ?_;rintro e w5 ⟨rfl,rfl⟩)|(go_at_call 168;refine(C2 _).mono ?_;rintro e w5 ⟨rfl,rfl⟩));obtain⟨lb,hlb⟩:=nmd w1.heap.size;rw[hlb];have S0:Hid (SSt w (w1.alloc (.cells (madeCells #[Iq 0] n) 3)) w.heap.size lb n 0 mn mx wt):=by
  have b1:Below w1.heap.size w1 (w1.alloc (.cells (madeCells #[Iq 0] n) 3)):=(Below.refl _ w1).alloc (Nat.le_refl _) _;refine⟨⟨by simp;omega,fun j hj=>⟨?_,?_⟩⟩,HW1.below b1,HB1.trans (b1.mono (by omega))⟩;·rw[World.cell?_alloc_at _ _ _ _ hlb.symm];simp[madeCells,hj,Nat.mod_one]
  ·rw[World.frozen?_alloc_at _ _ _ _ hlb.symm]
 have hlw:w.heap.size<lb:=by omega
 have HSm:Hid (∀k,sumL mn (List.range (k+1))=sumL mn (List.range k)+mn k):=fun k=>by rw[List.range_succ,sumL_snoc]
 have HSb:Hid (∀k,0≤sumL mn (List.range k)∧sumL mn (List.range k)≤(k:Int)*100000):=fun k=>by
  refine⟨sumL_nonneg fun j _=>(HM j).1,?_⟩;have:=sumL_bound (f:=mn) (l:=List.range k) (b:=100000) fun j _=>by have:=HM j;omega
  rw[List.length_range]at this;exact this
 clear HW1 HB1 hlb hmk;go_loopw[8,36] (fun l i wr=>∃(k:Nat) (x:Int),l=Iq x∧i=Iq k∧k≤n∧-20000000≤x∧x≤r∧Hid (x=r-sumL mn (List.range k))∧Hid (SSt w wr w.heap.size lb n k mn mx wt)) (fun _ i _=>n-(intOf i).toNat);case atStart=>exact⟨0,r,rfl,rfl,Nat.zero_le _,by omega,by omega,by simp[Hid,sumL],S0⟩
 case round=>
  obtain⟨k,x,rfl,rfl,hk,hx0,hx1,HX,HS⟩:=hrel;by_cases hlt:k<n
  ·have hlt':(k:Int)<(n:Int):=by omega
   have hs:=HS.out;have hsb:=HSb (k+1);have hsm:=HSm k;have hcw:=hs.want.2 k hlt;rw[Nat.zero_add]at hcw;obtain⟨a1,ha1⟩:=nmd (mn k);obtain⟨a2,ha2⟩:=nmd (mx k);obtain⟨a3,ha3⟩:=nmd (wt k);have hmk:=HM k;rw[ha1]at hsm;rw[ha1,ha2]at hmk;rw[ha1,ha2,ha3]at hcw;obtain⟨cw0,cw1,cw2⟩:=hcw;have hzc:=hs.want.1;have hzl:=hs.len.1;have cl1:wr.cell? ⟨lb,k,none⟩=some (Iq 0):=by have:=(hs.len.2 k hlt).1;dsimp only at this;rw[if_neg (by omega),Nat.zero_add]at this;exact this
   have fl1:wr.frozen? ⟨lb,k,none⟩=false:=by have:=(hs.len.2 k hlt).2;rw[Nat.zero_add]at this;exact this
   have HX2:Hid (x-a1=r-sumL mn (List.range (k+1))):=by show _=_;rw[hsm,HX.out];omega
   have hx2:-20000000≤x-a1:=by rw[HX2.out];have:=hsb.2;omega
   have HN:=qH<|fun o=>by have:=hs.next hlt (by omega) (by omega) o;rw[ha1,Nat.zero_add]at this;exact this
   have hm1:=hmk.1;have hm2:=hmk.2.1;have hm3:=hmk.2.2.1;clear hs hsb hsm ha1 ha2 ha3 hmk HX HS;go_wp2;go_roundw;case rel=>exact⟨k+1,x-a1,rfl,by go_num,by omega,by omega,by omega,HX2,HN _⟩
   case measure=>simp[intOf];omega
  ·have hge:¬(k:Int)<(n:Int):=by omega
   obtain rfl:n=k:=by omega
   have hs:=HS.out;have hl2:=hs.len.congr fun j hj=>by rw[if_pos hj]
   have hzl:=hs.len.1;have hbw:=hs.bel;have hzs:=hbw.size;by_cases hneg:x<0
   ·have CG:Hid (Calls prog 169 #[Sq lb n n,Iq (-x)] wr fun e w'=>e=.returned (.tuple #[])∧IRow w' lb 0 (gb ((List.range n).map mn) n (-x) [])∧wr.grownBy w' (some lb)):=by refine giveBack_any ((List.range n).map mn) lb 0 n (-x) wr n hl2.irow (rangeL_len n mn) (by omega) (fun y hy=>?_) ⟨by omega,by omega⟩;obtain⟨j,_,rfl⟩:=List.mem_map.1 hy;have:=HM j;omega
    have HF:Hid (∀w2,IRow w2 lb 0 (gb ((List.range n).map mn) n (-x) [])->wr.grownBy w2 (some lb)->SplitAt w w2 lb n mn mx wt r):=by intro w2 hi hg;have hbk:=back_of n mn (fun j=>(HM j).1) r (-x) hr0 (by rw[HX.out];omega) (by omega);refine⟨by omega,⟨_,hi.frow hbk.2,.inl ⟨?_,hbk.1⟩⟩,hbw.grown hg hzs (fun q hq=>by injection hq with hq;omega)⟩;have:=HX.out;omega
    clear hs hl2 hbw HX HS;go_wp2_with fail;refine CG.mono ?_;rintro e w2 ⟨rfl,q1,q2⟩;have HZ:=qH<|HF w2 q1 q2;clear q1 q2;go_wp2;go_ret;exact⟨lb,rfl,HZ⟩
   ·have CP:=qH<|
     pour_any n lb 0 n w.heap.size 0 n w.heap.size mn mx wt r x wr hl2 hs.want (by omega) (by omega) hzs (by omega) (fun j=>by have:=HM j;omega) HX ⟨by omega,by omega⟩;have HF:Hid (∀w2,PourOut wr w2 n lb 0 w.heap.size mn mx wt r->SplitAt w w2 lb n mn mx wt r):=by rintro w2 ⟨g,A,S,L,V,m,p1,p2,p3⟩;refine⟨by omega,⟨g,p2,.inr ⟨?_,A,S,L,V,m,p1⟩⟩,hbw.trans p3⟩;have:=HX.out;omega
    clear hs hl2 hbw HX HS;go_wp2_with fail;refine CP.mono ?_;rintro e w2 ⟨rfl,q1⟩;have HZ:=qH<|HF w2 q1;clear q1;go_wp2;go_ret;exact⟨lb,rfl,HZ⟩
end
section
variable{Mn Mx Wt:Nat->Int}
def levI(mn mx wt p q:Int):Int:=if mx*q<mn*q+p*wt then mx*q else mn*q+p*wt
theorem lev_le1 mn mx wt p q :levI mn mx wt p q≤mx*q∧levI mn mx wt p q≤mn*q+p*wt:=by unfold levI;split<;>omega
def totI(n:Nat)(Mn Mx Wt:Nat->Int)(p q:Int):Int:=sumL (fun j=>levI (Mn j) (Mx j) (Wt j) p q) (List.range n)
theorem lev_mono{mn mx wt p q L V}(hw:0≤wt)(hq:0<q)(hV:0<V)(h:p*V≤L*q):levI mn mx wt p q*V≤levI mn mx wt L V*q:=by
 have h1:=(lev_le1 mn mx wt p q).1;have h2:=(lev_le1 mn mx wt p q).2;have a1:levI mn mx wt p q*V≤mx*q*V:=Int.mul_le_mul_of_nonneg_right h1 (by omega);have a2:levI mn mx wt p q*V≤(mn*q+p*wt)*V:=Int.mul_le_mul_of_nonneg_right h2 (by omega);have a3:=Int.mul_le_mul_of_nonneg_right h hw;have e1:mx*q*V=mx*V*q:=Int.mul_right_comm _ _ _;have e2:(mn*q+p*wt)*V=mn*V*q+p*V*wt:=by rw[Int.add_mul,Int.mul_right_comm mn,Int.mul_right_comm p]
 have e3:(mn*V+L*wt)*q=mn*V*q+L*q*wt:=by rw[Int.add_mul,Int.mul_right_comm L]
 unfold levI at*;by_cases c:mx*V<mn*V+L*wt;·rw[if_pos c];omega
 ·rw[if_neg c];omega
theorem sumL_eq_of_le{f g}{l}(h:∀j∈l,f j≤g j)(e:sumL f l=sumL g l):∀j∈l,f j=g j:=by
 induction l with
 |nil=>intro j hj;simp at hj
 |cons a l ih=>
  have h1:=h a (by simp);have h2:sumL f l≤sumL g l:=sumL_le fun j hj=>h j (by simp[hj]);rw[sumL_cons,sumL_cons]at e;intro j hj;rcases List.mem_cons.1 hj with rfl|hj;·omega
  ·exact ih (fun j hj=>h j (by simp[hj])) (by omega) j hj
theorem Poured.levs{n}{r}{a}{A S}{L W}{m}(h:Poured n Mn Mx Wt r a A S L W m)(hw:∀j,Mn j≤Mx j)(hp:∀j,0≤Wt j)(hW:0≤W):
 ∀j,j<n->levI (Mn j) (Mx j) (Wt j) L W=if j∈A then Mx j*W else if j∈S then Mn j*W+L*Wt j else Mn j*W:=by
 obtain⟨hA,hS,hd,fA,fS,hall⟩:=h.facts;intro j hj;unfold levI;by_cases h1:j∈A;·rw[if_pos h1];have:=h.full j h1;rw[Int.sub_mul]at this;split<;>omega
 ·rw[if_neg h1];by_cases h2:j∈S;·rw[if_pos h2];have:=h.open_ j h2;rw[Int.sub_mul]at this;rw[if_neg (by omega)]
  ·rw[if_neg h2];have h0:Wt j=0:=by
    have:=hp j;by_cases e:0<Wt j
    ·rcases hall j hj e with h|h;·exact(h1 h).elim
     ·exact(h2 h).elim
    ·omega
   have hm:=Int.mul_le_mul_of_nonneg_right (hw j) hW;rw[h0,Int.mul_zero];rw[if_neg (by omega)];omega
theorem sumL_if{f}{n}{A}(hA:A.Nodup)(fA:∀j∈A,j<n):sumL (fun j=>if j∈A then f j else 0) (List.range n)=sumL f A:=by rw[sumL_sub (A:=A) List.nodup_range hA (fun j hj=>by simpa using fA j hj) (fun j _ hj=>if_neg hj)];exact sumL_congr fun j hj=>if_pos hj
theorem Poured.tots{n}{r}{a}{A S}{L W}{m}(h:Poured n Mn Mx Wt r a A S L W m)(hw:∀j,Mn j≤Mx j)(hp:∀j,0≤Wt j)(hW:0≤W):totI n Mn Mx Wt L W=r*W:=by
 obtain⟨hA,hS,hd,fA,fS,hall⟩:=h.facts;have hl:=h.levs hw hp hW;have e0:totI n Mn Mx Wt L W=W*sumL Mn (List.range n)+(W*sumL (fun j=>Mx j-Mn j) A+L*sumL Wt S):=by
  unfold totI;rw[<-sumL_mul W,<-sumL_mul W,<-sumL_mul L,<-sumL_if (f:=fun j=>W*(Mx j-Mn j)) hA (fun j hj=>(fA j hj).1),<-sumL_if (f:=fun j=>L*Wt j) hS (fun j hj=>(fS j hj).1),<-sumL_add,<-sumL_add];refine sumL_congr fun j hj=>?_;rw[hl j (by simpa using hj)];by_cases h1:j∈A;·have:=hd j h1;simp only[if_pos h1,if_neg this];rw[Int.mul_sub,Int.mul_comm W (Mx j),Int.mul_comm W (Mn j)];omega
  ·by_cases h2:j∈S;·simp only[if_neg h1,if_pos h2];rw[Int.mul_comm W (Mn j)];omega
   ·simp only[if_neg h1,if_neg h2];rw[Int.mul_comm W (Mn j)];omega
 rw[e0,<-h.weight,h.left];obtain⟨x,hx⟩:=nmd (sumL Mn (List.range n));obtain⟨y,hy⟩:=nmd (sumL (fun j=>Mx j-Mn j) A);rw[hx,hy,Int.sub_mul,Int.sub_mul,Int.mul_comm W x,Int.mul_comm W y];omega
theorem Poured.same{n}{r}{a}{A S}{L W}{m}(h:Poured n Mn Mx Wt r a A S L W m)(hw:∀j,Mn j≤Mx j)(hp:∀j,0≤Wt j)(hW:0<W){p q}(hq:0<q)(ht:totI n Mn Mx Wt p q=r*q):
 ∀j,j<n->levI (Mn j) (Mx j) (Wt j) p q*W=levI (Mn j) (Mx j) (Wt j) L W*q:=by
 have h2:=h.tots hw hp (by omega);have e1:sumL (fun j=>levI (Mn j) (Mx j) (Wt j) p q*W) (List.range n)=r*q*W:=by rw[<-ht];unfold totI;rw[Int.mul_comm _ W,<-sumL_mul];exact sumL_congr fun j _=>Int.mul_comm _ _
 have e2:sumL (fun j=>levI (Mn j) (Mx j) (Wt j) L W*q) (List.range n)=r*W*q:=by rw[<-h2];unfold totI;rw[Int.mul_comm _ q,<-sumL_mul];exact sumL_congr fun j _=>Int.mul_comm _ _
 have e3:r*q*W=r*W*q:=Int.mul_right_comm _ _ _;intro j hj;by_cases c:p*W≤L*q;·exact sumL_eq_of_le (fun j _=>lev_mono (hp j) hq hW c) (by rw[e1,e2,e3]) j (by simpa using hj)
 ·exact(sumL_eq_of_le (fun j _=>lev_mono (hp j) hW hq (by omega)) (by rw[e1,e2,e3]) j (by simpa using hj)).symm
theorem cross_div{a N q V:Int}(hq:0<q)(hV:0<V)(h:a*V=N*q):a/q=N/V∧a %q*V=N %V*q:=by
 refine⟨?_,?_⟩;·rw[<-Int.mul_ediv_mul_of_pos_left a q hV,h,Int.mul_comm q V,Int.mul_ediv_mul_of_pos_left N V hq]
 ·rw[Int.mul_comm (a %q) V,<-Int.mul_emod_mul_of_pos a q hV,Int.mul_comm V a,h,Int.mul_comm (N %V) q,<-Int.mul_emod_mul_of_pos N V hq,Int.mul_comm V q,Int.mul_comm q N]
def bse(Mn Mx Wt:Nat->Int)(A S:List Nat)(L W:Int)(j:Nat):Int:=if j∈A then Mx j else if j∈S then Mn j+L*Wt j/W else Mn j
def frc(Wt:Nat->Int)(S:List Nat)(L W:Int)(j:Nat):Int:=if j∈S then L*Wt j %W else 0
theorem Poured.parts{n}{r}{a}{A S}{L W}{m}(h:Poured n Mn Mx Wt r a A S L W m)(hw:∀j,Mn j≤Mx j)(hp:∀j,0≤Wt j)(hW:0<W){p q}(hq:0<q)(ht:totI n Mn Mx Wt p q=r*q):
 ∀j,j<n->levI (Mn j) (Mx j) (Wt j) p q/q=bse Mn Mx Wt A S L W j∧levI (Mn j) (Mx j) (Wt j) p q %q*W=frc Wt S L W j*q:=by
 obtain⟨hA,hS,hd,fA,fS,hall⟩:=h.facts;intro j hj;have h1:=h.same hw hp hW hq ht j hj;have h2:=h.levs hw hp (by omega) j hj;have h3:=cross_div hq hW h1;rw[h3.1,h3.2,h2];unfold bse frc;have hW0:W≠0:=by omega
 by_cases c1:j∈A;·rw[if_pos c1,if_pos c1,if_neg (hd j c1)];exact⟨Int.mul_ediv_cancel _ hW0,by rw[Int.mul_emod_left]⟩
 ·rw[if_neg c1,if_neg c1];by_cases c2:j∈S
  ·rw[if_pos c2,if_pos c2,if_pos c2];refine⟨?_,?_⟩;·rw[Int.add_comm,Int.add_mul_ediv_right _ _ hW0,Int.add_comm]
   ·rw[Int.add_comm,Int.add_mul_emod_self_right]
  ·rw[if_neg c2,if_neg c2,if_neg c2];exact⟨Int.mul_ediv_cancel _ hW0,by rw[Int.mul_emod_left]⟩
theorem Poured.is_bse{n}{r}{a}{A S}{L W}{m}(h:Poured n Mn Mx Wt r a A S L W m) j (hj:j<n):a j=bse Mn Mx Wt A S L W j+(if j∈S.take m then 1 else 0):=by
 obtain⟨hA,hS,hd,fA,fS,hall⟩:=h.facts;rw[h.is j hj];unfold bse;by_cases c1:j∈A;·rw[if_pos c1,if_pos c1,if_neg (fun e=>hd j c1 (List.mem_of_mem_take e))];omega
 ·rw[if_neg c1,if_neg c1];by_cases c2:j∈S;·rw[if_pos c2,if_pos c2]
  ·rw[if_neg c2,if_neg c2,if_neg (fun e=>c2 (List.mem_of_mem_take e))];omega
theorem Poured.left_m{n}{r}{a}{A S}{L W}{m}(h:Poured n Mn Mx Wt r a A S L W m)(hp:∀j,0≤Wt j)(hne:S≠[]):m≤S.length∧r-sumL (bse Mn Mx Wt A S L W) (List.range n)=m:=by
 obtain⟨hA,hS,hd,fA,fS,hall⟩:=h.facts;have hpos:0<W:=by obtain⟨x,hx⟩:=List.exists_mem_of_ne_nil S hne;rw[h.weight];exact Int.lt_of_lt_of_le (fS x hx).2 (sumL_mem (fun k _=>hp k) hx)
 have hb:=missing_bd (L:=L) h.weight hpos;rw[<-h.miss hne]at hb;have hm:m≤S.length:=by omega
 refine⟨hm,?_⟩;have e:=(h.sum hp).1 hne;rw[sumL_congr (fun j hj=>h.is_bse j (by simpa using hj)),sumL_add]at e;have e2:sumL (fun j=>if j∈S.take m then(1:Int)else 0) (List.range n)=m:=by rw[sumL_sub (A:=S) List.nodup_range hS (fun j hj=>by simpa using(fS j hj).1) (fun j _ hj=>if_neg (fun e=>hj (List.mem_of_mem_take e))),take_sum S hS m hm]
 rw[e2]at e;omega
theorem Poured.frac_pos{n}{r}{a}{A S}{L W}{m}(h:Poured n Mn Mx Wt r a A S L W m)(hp:∀j,0≤Wt j)(hW:0<W) t (ht:t<m)(hm:m≤S.length):0<L*Wt (S[t]?.getD 0) %W:=by
 have hne:S≠[]:=by intro e;rw[e]at hm;simp at hm;omega
 have htS:t<S.length:=by omega
 obtain⟨i,hi⟩:=nmd (S[t]?.getD 0);rw[hi];have hge:0≤L*Wt i %W:=Int.emod_nonneg _ (by omega);by_cases hz:L*Wt i %W=0
 ·exfalso;have e:sumL (fun j=>L*Wt j) S=W*sumL (fun j=>L*Wt j/W) S+sumL (fun j=>L*Wt j %W) S:=by rw[<-sumL_mul,<-sumL_add];exact sumL_congr fun j _=>(Int.mul_ediv_add_emod _ _).symm
  rw[sumL_mul,<-h.weight]at e;have hmm:=h.miss hne;have hsplit:S=S.take t++(i::S.drop (t+1)):=by rw[<-hi,List.getElem?_eq_getElem htS];show S=S.take t++(S[t]::S.drop (t+1));rw[<-List.drop_eq_getElem_cons htS,List.take_append_drop]
  have hpw:=h.sorted;rw[hsplit,List.pairwise_append]at hpw;have hlater:∀k∈S.drop (t+1),L*Wt k %W=0:=fun k hk=>by have:=(List.pairwise_cons.1 hpw.2.1).1 k hk;have h0:0≤L*Wt k %W:=Int.emod_nonneg _ (by omega);omega
  have hsum:sumL (fun j=>L*Wt j %W) S=sumL (fun j=>L*Wt j %W) (S.take t):=by
   conv=>lhs;rw[hsplit]
   rw[sumL_append,sumL_cons,hz];have:sumL (fun j=>L*Wt j %W) (S.drop (t+1))=0:=by
    rw[sumL_congr (g:=fun _=>0) hlater];have:∀l:List Nat,sumL (fun _=>(0:Int)) l=0:=by
     intro l;induction l with
     |nil=>rfl
     |cons a l ih=>rw[sumL_cons,ih];rfl
    exact this _
   omega
  have hbd:sumL (fun j=>L*Wt j %W) (S.take t)≤((S.take t).length:Int)*W:=sumL_bound fun j _=>Int.le_of_lt (Int.emod_lt_of_pos _ hW);have hlen:(S.take t).length=t:=by rw[List.length_take];omega
  rw[hlen]at hbd;have e4:W*(m:Int)=sumL (fun j=>L*Wt j %W) S:=by rw[hmm,Int.mul_sub,Int.mul_comm W L];omega
  have h6:W*(t+1:Int)≤W*(m:Int):=Int.mul_le_mul_of_nonneg_left (by omega) (by omega);rw[Int.mul_add,Int.mul_one,Int.mul_comm W (t:Int)]at h6;rw[e4,hsum]at h6;omega
 ·omega
def risB(mn mx wt p q:Int):Bool:=decide (0<wt∧mn*q+p*wt<mx*q)
def opW(n:Nat)(Mn Mx Wt:Nat->Int)(p q:Int):Int:=sumL (fun j=>if risB (Mn j) (Mx j) (Wt j) p q then Wt j else 0) (List.range n)
def opB(n:Nat)(Mn Mx Wt:Nat->Int)(p q:Int):Int:=sumL (fun j=>if risB (Mn j) (Mx j) (Wt j) p q then Mn j else if 0<Wt j then Mx j else Mn j) (List.range n)
def goodAt(n:Nat)(Mn Mx Wt:Nat->Int)(r p q:Int):Prop:=opW n Mn Mx Wt p q≠0∧0≤r-opB n Mn Mx Wt p q∧p*opW n Mn Mx Wt p q≤(r-opB n Mn Mx Wt p q)*q∧totI n Mn Mx Wt (r-opB n Mn Mx Wt p q) (opW n Mn Mx Wt p q)=r*opW n Mn Mx Wt p q
theorem good_of{n}{r}{a}{A S}{L W}{m}(h:Poured n Mn Mx Wt r a A S L W m)(hw:∀j,Mn j≤Mx j)(hp:∀j,0≤Wt j)(hW:0<W) p q (hpq:p*W≤L*q)(hA:∀j∈A,risB (Mn j) (Mx j) (Wt j) p q=false)(hS:∀j∈S,risB (Mn j) (Mx j) (Wt j) p q=true):goodAt n Mn Mx Wt r p q:=by
 obtain⟨nA,nS,hd,fA,fS,hall⟩:=h.facts;have hlight:∀j,j<n->j∉A->j∉S->Wt j=0∧risB (Mn j) (Mx j) (Wt j) p q=false:=fun j hj h1 h2=>by
  have h0:Wt j=0:=by
   have:=hp j;by_cases e:0<Wt j
   ·rcases hall j hj e with h|h;·exact(h1 h).elim
    ·exact(h2 h).elim
   ·omega
  exact⟨h0,by unfold risB;rw[h0];simp⟩
 have eW:opW n Mn Mx Wt p q=W:=by
  unfold opW;rw[h.weight,<-sumL_if nS (fun j hj=>(fS j hj).1)];refine sumL_congr fun j hj=>?_;have hj:j<n:=by simpa using hj
  by_cases h2:j∈S;·rw[if_pos h2,hS j h2];rfl
  ·rw[if_neg h2];by_cases h1:j∈A;·rw[hA j h1];rfl
   ·rw[(hlight j hj h1 h2).2];rfl
 have eB:opB n Mn Mx Wt p q=sumL Mn (List.range n)+sumL (fun j=>Mx j-Mn j) A:=by
  unfold opB;rw[<-sumL_if (f:=fun j=>Mx j-Mn j) nA (fun j hj=>(fA j hj).1),<-sumL_add];refine sumL_congr fun j hj=>?_;have hj:j<n:=by simpa using hj
  by_cases h1:j∈A;·rw[hA j h1,if_pos h1,if_pos (fA j h1).2];simp;omega
  ·rw[if_neg h1];by_cases h2:j∈S;·rw[hS j h2];simp
   ·rw[(hlight j hj h1 h2).2,(hlight j hj h1 h2).1];simp
 have eL:r-opB n Mn Mx Wt p q=L:=by rw[eB,h.left];omega
 unfold goodAt;rw[eW,eL];exact⟨by omega,h.pos,hpq,h.tots hw hp (by omega)⟩
theorem exists_max A (hA:A≠[])(M V:Nat->Int)(hV:∀j∈A,0<V j):∃i∈A,∀j∈A,M j*V i≤M i*V j:=by
 induction A with
 |nil=>exact(hA rfl).elim
 |cons a A ih=>
  by_cases e:A=[];·subst e;exact⟨a,by simp,fun j hj=>by simp at hj;subst hj;exact Int.le_refl _⟩
  ·obtain⟨i,hi,hmax⟩:=ih e (fun j hj=>hV j (by simp[hj]));by_cases c:M a*V i≤M i*V a;·exact⟨i,by simp[hi],fun j hj=>by
     rcases List.mem_cons.1 hj with rfl|hj;·exact c
     ·exact hmax j hj⟩
   ·refine⟨a,by simp,fun j hj=>?_⟩;rcases List.mem_cons.1 hj with rfl|hj;·exact Int.le_refl _
    ·have h1:=hmax j hj;have va:=hV a (by simp);have vi:=hV i (by simp[hi]);have vj:=hV j (by simp[hj]);have e1:M j*V i*V a≤M i*V j*V a:=Int.mul_le_mul_of_nonneg_right h1 (by omega);have e2:M i*V a*V j≤M a*V i*V j:=Int.mul_le_mul_of_nonneg_right (by omega) (by omega);have e3:M j*V a*V i≤M a*V j*V i:=by rw[Int.mul_right_comm (M j) (V a) (V i),Int.mul_right_comm (M a) (V j) (V i)];refine Int.le_trans e1 ?_;rw[Int.mul_right_comm (M i) (V j) (V a)];exact e2
     exact Int.le_of_mul_le_mul_right e3 vi
theorem Poured.cand{n}{r}{a}{A S}{L W}{m}(h:Poured n Mn Mx Wt r a A S L W m)(hw:∀j,Mn j≤Mx j)(hp:∀j,0≤Wt j)(hne:S≠[]):
 goodAt n Mn Mx Wt r 0 1∨∃i,i<n∧0<Wt i∧goodAt n Mn Mx Wt r (Mx i-Mn i) (Wt i):=by
 obtain⟨nA,nS,hd,fA,fS,hall⟩:=h.facts;have hW:0<W:=by obtain⟨x,hx⟩:=List.exists_mem_of_ne_nil S hne;rw[h.weight];exact Int.lt_of_lt_of_le (fS x hx).2 (sumL_mem (fun k _=>hp k) hx)
 by_cases hA:A=[]
 ·subst hA;left;refine good_of h hw hp hW 0 1 (by have:=h.pos;omega) (by simp) fun j hj=>?_;unfold risB;have h1:=h.open_ j hj;have h2:=Int.mul_nonneg h.pos (hp j);have h3:0<Mx j-Mn j:=by
   by_cases e:0<Mx j-Mn j;·exact e
   ·have:(Mx j-Mn j)*W≤0:=Int.mul_nonpos_of_nonpos_of_nonneg (by omega) (by omega);omega
  simp only[decide_eq_true_eq];exact⟨(fS j hj).2,by omega⟩
 ·right;obtain⟨i,hi,hmax⟩:=exists_max A hA (fun j=>Mx j-Mn j) Wt (fun j hj=>(fA j hj).2);refine⟨i,(fA i hi).1,(fA i hi).2,good_of h hw hp hW _ _ (h.full i hi) (fun j hj=>?_) (fun j hj=>?_)⟩;·unfold risB;have:=hmax j hj;simp only[decide_eq_false_iff_not];rintro⟨_,h2⟩;have e1:(Mx j-Mn j)*Wt i=Mx j*Wt i-Mn j*Wt i:=Int.sub_mul _ _ _;omega
  ·unfold risB;simp only[decide_eq_true_eq];refine⟨(fS j hj).2,?_⟩;have h1:=h.full i hi;have h2:=h.open_ j hj;have wi:=(fA i hi).2;have wj:=(fS j hj).2;have e1:(Mx i-Mn i)*W*Wt j≤L*Wt i*Wt j:=Int.mul_le_mul_of_nonneg_right h1 (by omega);have e2:=Int.mul_lt_mul_of_pos_right h2 wi;have e3:(Mx i-Mn i)*Wt j*W<(Mx j-Mn j)*Wt i*W:=by rw[Int.mul_right_comm (Mx i-Mn i) (Wt j) W,Int.mul_right_comm (Mx j-Mn j) (Wt i) W];refine Int.lt_of_le_of_lt e1 ?_;rw[Int.mul_right_comm L];exact e2
   have e4:=Int.lt_of_mul_lt_mul_right e3 (by omega);have e5:(Mx j-Mn j)*Wt i=Mx j*Wt i-Mn j*Wt i:=Int.sub_mul _ _ _;omega
theorem Poured.all_full{n}{r}{a}{A}{L W}{m}(h:Poured n Mn Mx Wt r a A [] L W m)(hw:∀j,Mn j≤Mx j)(hp:∀j,0≤Wt j){p q}(hq:0<q)(ht:totI n Mn Mx Wt p q=r*q):
 (∀j,j<n->levI (Mn j) (Mx j) (Wt j) p q=a j*q)∧r=sumL a (List.range n):=by
 obtain⟨nA,nS,hd,fA,fS,hall⟩:=h.facts;have hs:=(h.sum hp).2 rfl;have hle:∀j∈List.range n,levI (Mn j) (Mx j) (Wt j) p q≤a j*q:=fun j hj=>by
  have hj:j<n:=by simpa using hj
  rw[h.is j hj];have h1:=(lev_le1 (Mn j) (Mx j) (Wt j) p q);by_cases c:j∈A;·rw[if_pos c];exact h1.1
  ·rw[if_neg c,if_neg (by simp)];have h0:Wt j=0:=by
    have:=hp j;by_cases e:0<Wt j
    ·rcases hall j hj e with h|h;·exact(c h).elim
     ·simp at h
    ·omega
   rw[h0,Int.mul_zero]at h1;rw[h0];omega
 have e1:sumL (fun j=>a j*q) (List.range n)=sumL a (List.range n)*q:=by rw[Int.mul_comm,<-sumL_mul];exact sumL_congr fun j _=>Int.mul_comm _ _
 have hsum:=sumL_le hle;have ht':sumL (fun j=>levI (Mn j) (Mx j) (Wt j) p q) (List.range n)=r*q:=ht;rw[ht',e1]at hsum;have h3:=Int.le_of_mul_le_mul_right hsum hq;have hr:r=sumL a (List.range n):=by have:=h.pos;omega
 refine⟨fun j hj=>sumL_eq_of_le hle (by rw[ht',e1,<-hr]) j (by simpa using hj),hr⟩
structure Best(n:Nat)(f:Nat->Int)(b:Nat):Prop where
 lt:b<n
 top:∀j,j<n->f j≤f b
 first:∀j,j<b->f j<f b
theorem Best.uniq{n}{f}{b c}(h:Best n f b)(k:Best n f c):b=c:=by
 rcases Nat.lt_trichotomy b c with e|e|e;·have:=k.first b e;have:=h.top c k.lt;omega
 ·exact e
 ·have:=h.first c e;have:=k.top b h.lt;omega
theorem Poured.best{n}{r}{a}{A S}{L W}{m}(h:Poured n Mn Mx Wt r a A S L W m)(hp:∀j,0≤Wt j)(hW:0<W) t (ht:t<m)(hm:m≤S.length)(rest:Nat->Int){q}(hq:0<q)(hr:∀j,j<n->rest j*W=frc Wt S L W j*q):
 Best n (fun j=>if j∈S.take t then-1 else rest j) (S[t]?.getD 0):=by
 obtain⟨nA,nS,hd,fA,fS,hall⟩:=h.facts;have hpos:=h.frac_pos hp hW t ht hm;have htS:t<S.length:=by omega
 obtain⟨i,hi⟩:=nmd (S[t]?.getD 0);rw[hi]at hpos⊢;have hiS:i∈S:=by rw[<-hi,List.getElem?_eq_getElem htS];exact List.getElem_mem htS
 have hsplit:S=S.take t++(i::S.drop (t+1)):=by rw[<-hi,List.getElem?_eq_getElem htS];show S=S.take t++(S[t]::S.drop (t+1));rw[<-List.drop_eq_getElem_cons htS,List.take_append_drop]
 have hnt:i∉S.take t:=by have:=nS;rw[hsplit,List.nodup_append]at this;exact fun hm=>this.2.2 i hm i (by simp) rfl
 have hpw:=h.sorted;rw[hsplit,List.pairwise_append]at hpw;have hlater:=(List.pairwise_cons.1 hpw.2.1).1;have hri:=hr i (fS i hiS).1;have hfi:frc Wt S L W i=L*Wt i %W:=by unfold frc;rw[if_pos hiS]
 rw[hfi]at hri;have hposr:0<rest i:=by
  have h1:=Int.mul_pos hpos hq;rw[<-hri]at h1;by_cases e:0<rest i;·exact e
  ·have:rest i*W≤0:=Int.mul_nonpos_of_nonpos_of_nonneg (by omega) (by omega);omega
 have key:∀j,j<n->j∉S.take t->j≠i->(rest j<rest i∨(rest j=rest i∧i<j)):=by
  intro j hj hnt' hji;have hrj:=hr j hj;by_cases hjS:j∈S
  ·have hjl:j∈S.drop (t+1):=by
    rw[hsplit]at hjS;rcases List.mem_append.1 hjS with h1|h1;·exact(hnt' h1).elim
    ·rcases List.mem_cons.1 h1 with h1|h1;·exact(hji h1).elim
     ·exact h1
   have hfj:frc Wt S L W j=L*Wt j %W:=by unfold frc;rw[if_pos hjS]
   rw[hfj]at hrj;rcases hlater j hjl with h1|⟨h1,h2⟩;·left;have h3:=Int.mul_lt_mul_of_pos_right h1 hq;rw[<-hri,<-hrj]at h3;exact Int.lt_of_mul_lt_mul_right h3 (by omega)
   ·right;refine⟨?_,h2⟩;rw[<-h1,<-hri]at hrj;exact Int.eq_of_mul_eq_mul_right (by omega) hrj
  ·left;have hfj:frc Wt S L W j=0:=by unfold frc;rw[if_neg hjS]
   rw[hfj,Int.zero_mul]at hrj;have:rest j=0:=by
    rcases Int.mul_eq_zero.1 hrj with h|h;·exact h
    ·omega
   omega
 refine⟨(fS i hiS).1,fun j hj=>?_,fun j hj=>?_⟩
 ·rw[if_neg hnt];by_cases c:j∈S.take t;·rw[if_pos c];omega
  ·rw[if_neg c];by_cases e:j=i;·rw[e];exact Int.le_refl _
   ·rcases key j hj c e with h|⟨h,_⟩<;>omega
 ·rw[if_neg hnt];have hjn:j<n:=by have:=(fS i hiS).1;omega
  by_cases c:j∈S.take t;·rw[if_pos c];omega
  ·rw[if_neg c];rcases key j hjn c (by omega)with h|⟨_,h⟩<;>omega
theorem sum_tail f  n k (hk:k≤n):sumL f (List.range n)=sumL f (List.range k)+sumL f ((List.range n).drop k):=by
 rw[<-sumL_append];congr 1;have:List.range k=(List.range n).take k:=by rw[List.take_range,Nat.min_eq_left hk]
 rw[this,List.take_append_drop]
theorem mem_tail{n k j}(h:j∈(List.range n).drop k):k≤j∧j<n:=by obtain⟨i,hi,e⟩:=List.mem_iff_getElem.1 h;rw[List.getElem_drop,List.getElem_range]at e;rw[List.length_drop,List.length_range]at hi;omega
theorem Back.le_of{n}{mn}{r}{g g'}(h:Back n mn r g)(h':Back n mn r g') k (hk:k<n)(e:∀j,j<k->g j=g' j):g' k≤g k:=by
 by_cases c:g' k≤g k;·exact c
 ·exfalso;have hb:=h'.bd k hk;have s1:=sum_tail g n (k+1) (by omega);have s2:=sum_tail g' n (k+1) (by omega);have t1:sumL g ((List.range n).drop (k+1))≤0:=by
   have:sumL g ((List.range n).drop (k+1))≤sumL (fun _=>0) ((List.range n).drop (k+1)):=sumL_le fun j hj=>by have:=mem_tail hj;rw[h.behind k j (by omega) (by omega) (by omega)];exact Int.le_refl _
   refine Int.le_trans this ?_;have z:∀l:List Nat,sumL (fun _=>(0:Int)) l=0:=by
    intro l;induction l with
    |nil=>rfl
    |cons a l ih=>rw[sumL_cons,ih];rfl
   rw[z];exact Int.le_refl _
  have t2:0≤sumL g' ((List.range n).drop (k+1)):=sumL_nonneg fun j hj=>(h'.bd j (mem_tail hj).2).1;have t3:sumL g (List.range k)=sumL g' (List.range k):=sumL_congr fun j hj=>e j (by simpa using hj);rw[List.range_succ,sumL_snoc]at s1 s2;have:=h.sum;have:=h'.sum;omega
theorem Back.uniq{n}{mn}{r}{g g'}(h:Back n mn r g)(h':Back n mn r g'):∀j,j<n->g j=g' j:=by
 have:∀k,k≤n->∀j,j<k->g j=g' j:=by
  intro k;induction k with
  |zero=>intro _ j hj;omega
  |succ k ih=>
   intro hk j hj;have ihk:=ih (by omega);by_cases e:j<k;·exact ihk j e
   ·obtain rfl:j=k:=by omega
    have a1:=h.le_of h' j (by omega) ihk;have a2:=h'.le_of h j (by omega) (fun i hi=>(ihk i hi).symm);omega
 exact this n (Nat.le_refl _)
end
section
open Go.RowKit Go.Sort
def Heldb(Mn Mx Wt:Nat->Int):Prop:=∀j,0≤Mn j∧Mn j≤Mx j∧Mx j≤100000∧0≤Wt j∧Wt j≤100000
structure Parts(n:Nat)(Mn Mx Wt:Nat->Int)(r p q:Int)(g:Nat->Int)(S:List Nat)(m:Nat)(base rest:Nat->Int):Prop where
 base_:∀j,j<n->levI (Mn j) (Mx j) (Wt j) p q/q=base j
 rest_:∀j,j<n->levI (Mn j) (Mx j) (Wt j) p q %q=rest j
 left:r-sumL base (List.range n)=m
 le:m≤S.length
 nodup:S.Nodup
 lt:∀j∈S,j<n
 best:∀t,t<m->Best n (fun j=>if j∈S.take t then-1 else rest j) (S[t]?.getD 0)
 is:∀j,j<n->g j=base j+(if j∈S.take m then 1 else 0)
theorem parts_of{n}{Mn Mx Wt}{r p q}{g}(hM:Heldb Mn Mx Wt)(hsp:SplitIs n Mn Mx Wt r g)(hle:sumL Mn (List.range n)≤r)(hq:0<q)(ht:totI n Mn Mx Wt p q=r*q):∃S m base rest,Parts n Mn Mx Wt r p q g S m base rest:=by
 have hw:=fun j=>(hM j).2.1;have hp:=fun j=>(hM j).2.2.2.1;rcases hsp with⟨h1,_⟩|⟨_,A,S,L,V,m,h⟩;·omega
 ·obtain⟨nA,nS,hd,fA,fS,hall⟩:=h.facts;by_cases hS:S=[];·subst hS;have hf:=h.all_full hw hp hq ht;refine⟨[],0,g,fun j=>levI (Mn j) (Mx j) (Wt j) p q %q,fun j hj=>?_,fun _ _=>rfl,by rw[<-hf.2];simp,by simp,by simp,by simp,fun t ht=>by omega,fun j hj=>by simp⟩;rw[hf.1 j hj];exact Int.mul_ediv_cancel _ (by omega)
  ·have hV:0<V:=by obtain⟨x,hx⟩:=List.exists_mem_of_ne_nil S hS;rw[h.weight];exact Int.lt_of_lt_of_le (fS x hx).2 (sumL_mem (fun k _=>hp k) hx)
   have hpt:=h.parts hw hp hV hq ht;have hlm:=h.left_m hp hS;exact⟨S,m,bse Mn Mx Wt A S L V,fun j=>levI (Mn j) (Mx j) (Wt j) p q %q,fun j hj=>(hpt j hj).1,fun _ _=>rfl,hlm.2,hlm.1,nS,fun j hj=>(fS j hj).1,fun t ht=>h.best hp hV t ht hlm.1 _ hq (fun j hj=>(hpt j hj).2),fun j hj=>h.is_bse j hj⟩
theorem Best.congr{n}{f g}{b}(h:Best n f b)(e:∀j,j<n->f j=g j):Best n g b:=by
 refine⟨h.lt,fun j hj=>?_,fun j hj=>?_⟩;·rw[<-e j hj,<-e b h.lt];exact h.top j hj
 ·have:=h.lt;rw[<-e j (by omega),<-e b h.lt];exact h.first j hj
theorem Parts.uniq{n}{Mn Mx Wt}{r p q}{g g'}{S S'}{m m'}{base base' rest rest'}(h:Parts n Mn Mx Wt r p q g S m base rest)(h':Parts n Mn Mx Wt r p q g' S' m' base' rest'):∀j,j<n->g j=g' j:=by
 have hb:=fun j hj=>(h.base_ j hj).symm.trans (h'.base_ j hj);have hr:=fun j hj=>(h.rest_ j hj).symm.trans (h'.rest_ j hj);have hs:sumL base (List.range n)=sumL base' (List.range n):=sumL_congr fun j hj=>hb j (by simpa using hj);have hm:m=m':=by have h1:=h.left;have h2:=h'.left;omega
 subst hm;have ht:∀t,t≤m->S.take t=S'.take t:=by
  intro t;induction t with
  |zero=>intro _;simp
  |succ t ih=>
   intro hle;have e:=ih (by omega);have b1:=h.best t (by omega);have b2:=h'.best t (by omega);have b3:=b1.congr (g:=fun j=>if j∈S'.take t then-1 else rest' j) fun j hj=>by rw[e,hr j hj]
   have e2:=b3.uniq b2;have l1:t<S.length:=by have:=h.le;omega
   have l2:t<S'.length:=by have:=h'.le;omega
   rw[List.getElem?_eq_getElem l1,List.getElem?_eq_getElem l2]at e2;have e3:S[t]=S'[t]:=e2;rw[List.take_succ_eq_append_getElem l1,List.take_succ_eq_append_getElem l2,e,e3]
 intro j hj;rw[h.is j hj,h'.is j hj,hb j hj,ht m (Nat.le_refl _)]
theorem SplitIs.uniq{n}{Mn Mx Wt}{r}{g g'}(hM:Heldb Mn Mx Wt)(h:SplitIs n Mn Mx Wt r g)(h':SplitIs n Mn Mx Wt r g'):∀j,j<n->g j=g' j:=by
 have hw:=fun j=>(hM j).2.1;have hp:=fun j=>(hM j).2.2.2.1;have k:=h;have k':=h';rcases h with⟨a,b⟩|⟨a,A,S,L,V,m,p⟩
 ·rcases h' with⟨a',b'⟩|⟨a',_⟩;·exact b.uniq b'
  ·omega
 ·rcases h' with⟨a',_⟩|⟨a',A',S',L',V',m',p'⟩;·omega
  ·obtain⟨_,_,_,fA,fS,hall⟩:=p.facts;obtain⟨_,_,_,fA',fS',hall'⟩:=p'.facts;by_cases e:S=[]
   ·by_cases e':S'=[]
    ·subst e;subst e';intro j hj;rw[p.is j hj,p'.is j hj];have key:j∈A↔j∈A':=⟨fun q=>(hall' j hj (fA j q).2).elim id (fun q=>absurd q (by simp)),fun q=>(hall j hj (fA' j q).2).elim id (fun q=>absurd q (by simp))⟩;by_cases c:j∈A;·rw[if_pos c,if_pos (key.1 c)]
     ·rw[if_neg c,if_neg (fun q=>c (key.2 q))];simp
    ·have hV:0<V':=by obtain⟨x,hx⟩:=List.exists_mem_of_ne_nil S' e';rw[p'.weight];exact Int.lt_of_lt_of_le (fS' x hx).2 (sumL_mem (fun k _=>hp k) hx)
     have ht:=p'.tots hw hp (by omega);obtain⟨_,_,_,_,q1⟩:=parts_of hM k a hV ht;obtain⟨_,_,_,_,q2⟩:=parts_of hM k' a' hV ht;exact q1.uniq q2
   ·have hV:0<V:=by obtain⟨x,hx⟩:=List.exists_mem_of_ne_nil S e;rw[p.weight];exact Int.lt_of_lt_of_le (fS x hx).2 (sumL_mem (fun k _=>hp k) hx)
    have ht:=p.tots hw hp (by omega);obtain⟨_,_,_,_,q1⟩:=parts_of hM k a hV ht;obtain⟨_,_,_,_,q2⟩:=parts_of hM k' a' hV ht;exact q1.uniq q2
end
section
open Go.RowKit Go.Sort Go.Proofs.Tryz
def wCells(a b c:Nat->Int):Nat->List Value
 |0=>[]
 |k+1=>wCells a b c k++[Iq (a k),Iq (b k),Iq (c k)]
theorem wCells_len a b c :∀k,(wCells a b c k).length=k*3
 |0=>rfl
 |k+1=>by rw[wCells,List.length_append,wCells_len a b c k];simp;omega
theorem wCells_at a b c :∀k j,j<k->(wCells a b c k)[j*3]?=some (Iq (a j))∧(wCells a b c k)[j*3+1]?=some (Iq (b j))∧(wCells a b c k)[j*3+2]?=some (Iq (c j))
 |0,j,h=>by omega
 |k+1,j,h=>by
  have hl:=wCells_len a b c k;by_cases e:j<k;·have:=wCells_at a b c k j e;simp only[wCells];rw[List.getElem?_append_left (by omega),List.getElem?_append_left (by omega),List.getElem?_append_left (by omega)];exact this
  ·obtain rfl:j=k:=by omega
   simp only[wCells];rw[List.getElem?_append_right (by omega),List.getElem?_append_right (by omega),List.getElem?_append_right (by omega),hl,Nat.sub_self,show j*3+1-j*3=1 by omega,show j*3+2-j*3=2 by omega];exact⟨rfl,rfl,rfl⟩
def WVal(B:Nat)(W:World)(v:Value)(n:Nat)(a b c:Nat->Int):Prop:=∃p cap,v=.slice p n cap∧(n=0∨∃g,p=some ⟨g,0,none⟩∧B≤g∧WRow W g 0 n a b c)
theorem wval_own{W}{B n}{e}{v}{a b c}(h:W.ownsRow B e 3 v n (wCells a b c n)):WVal B W v n a b c:=by
 have h0:=h;rcases h.2 with⟨rfl,rfl⟩|⟨g,cap,cur,rfl,hb,hg,h1,h2,_⟩;·exact⟨none,0,rfl,.inl rfl⟩
 ·refine⟨some ⟨g,0,none⟩,cap,rfl,.inr ⟨g,rfl,hb,(Array.getElem?_eq_some_iff.1 hg).1,fun j hj=>?_⟩⟩;have:=wCells_at a b c n j hj;rw[h0.cellAt _ (by omega),h0.cellAt _ (by omega),h0.cellAt _ (by omega),Nat.zero_add];exact this
def WIn(W:World)(v:Value)(n:Nat)(a b c:Nat->Int):Prop:=∃p cap,v=.slice p n cap∧(n=0∨∃g off,p=some ⟨g,off,none⟩∧WRow W g off n a b c)
theorem WIn.below{A B}{v}{n}{a b c}(h:WIn A v n a b c)(hb:Below A.heap.size A B):WIn B v n a b c:=by
 obtain⟨p,cap,hv,h⟩:=h;refine⟨p,cap,hv,?_⟩;rcases h with h|⟨g,off,hp,hr⟩;·exact .inl h
 ·exact .inr ⟨g,off,hp,hr.below hb⟩
def SplitV(w w':World)(v:Value)(n:Nat)(a b c:Nat->Int)(room gap:Int):Prop:=
 ((n=0∨200<n)∧v=.slice none 0 0∧w'=w)∨(0<n∧n≤200∧∃lb,v=Sq lb n n∧SplitAt w w' lb n (fun j=>cl (a j)) (fun j=>hMax (a j) (b j)) (fun j=>cl (c j)) (rm room gap n))
theorem split_all v  n  a b c  room gap  w (h:WIn w v n a b c)(hn:n≤5864062014805):
 Calls prog 140 #[Iq room,Iq gap,v] w fun e w'=>∃v,e=.returned v∧SplitV w w' v n a b c room gap:=by
 obtain⟨p,cap,rfl,h⟩:=h;by_cases h0:n=0∨200<n;·exact(split_none p n cap room gap w h0 (by omega)).mono fun e w' ⟨he,hw⟩=>⟨_,he,.inl ⟨h0,rfl,hw⟩⟩
 ·obtain⟨g,off,rfl,hr⟩:=h.resolve_left (fun e=>h0 (.inl e));exact(split_any n g off cap a b c room gap w hr (by omega) (by omega)).mono fun e w' ⟨lb,he,hs⟩=>⟨_,he,.inr ⟨by omega,by omega,lb,rfl,hs⟩⟩
theorem SplitV.below{w w'}{v}{n}{a b c}{room gap}(h:SplitV w w' v n a b c room gap):Below w.heap.size w w':=by
 rcases h with⟨_,_,rfl⟩|⟨_,_,lb,_,h⟩;·exact Below.refl _ _
 ·exact h.2.2
end
section
open Go.RowKit Go.Sort
theorem SplitIs.tiles{n}{mn mx wt g}{r}(h:SplitIs n mn mx wt r g)(hm:∀j,0≤mn j∧mn j≤mx j∧mx j≤100000∧0≤wt j∧wt j≤100000):
 (∀j,j<n->0≤g j∧g j≤mx j)∧(r≤sumL mn (List.range n)∨r≤sumL (fun j=>if 0<wt j then mx j else mn j) (List.range n)->sumL g (List.range n)=r)∧
  (sumL mn (List.range n)<r->sumL (fun j=>if 0<wt j then mx j else mn j) (List.range n)<r->sumL g (List.range n)=sumL (fun j=>if 0<wt j then mx j else mn j) (List.range n)):=by
 have hle:sumL mn (List.range n)≤sumL (fun j=>if 0<wt j then mx j else mn j) (List.range n):=sumL_le fun j _=>by have:=hm j;split<;>omega
 rcases h with⟨h1,hb⟩|⟨h1,A,S,L,V,m,hp⟩;·refine⟨fun j hj=>?_,fun _=>hb.sum,fun h=>by omega⟩;have:=hb.bd j hj;have:=hm j;omega
 ·have ht:=hp.tiles (fun j=>(hm j).2.1) (fun j=>(hm j).2.2.2.1);refine⟨fun j hj=>?_,fun h=>by omega,fun _ h=>by omega⟩;have:=hp.bds (fun j=>(hm j).2.1) (fun j=>(hm j).2.2.2.1) j hj;have:=hm j;omega
theorem held_bds(a b c:Nat->Int) j :0≤cl (a j)∧cl (a j)≤hMax (a j) (b j)∧hMax (a j) (b j)≤100000∧0≤cl (c j)∧cl (c j)≤100000:=
 ⟨(cl_bd _).1,(hMax_bd _ _).1,(hMax_bd _ _).2,(cl_bd _).1,(cl_bd _).2⟩
end
section
open Go.RowKit Go.Sort Go.Proofs.Tryz
def offs(g:Nat->Int)(cg:Int)(k:Nat):Int:=sumL (fun j=>g j+cg) (List.range k)
theorem offs_next g  cg  k :offs g cg (k+1)=offs g cg k+(g k+cg):=by unfold offs;rw[List.range_succ,sumL_snoc]
theorem offs_bd{g}{cg}{n}(hg:∀j,j<n->0≤g j∧g j≤100000)(hc:0≤cg∧cg≤100000) k (hk:k≤n):0≤offs g cg k∧offs g cg k≤(k:Int)*200000:=by
 refine⟨sumL_nonneg fun j hj=>by have:=hg j (by have:=List.mem_range.1 hj;omega);omega,?_⟩;have:=sumL_bound (f:=fun j=>g j+cg) (l:=List.range k) (b:=200000) fun j hj=>by have:=hg j (by have:=List.mem_range.1 hj;omega);omega
 rw[List.length_range]at this;exact this
def OffV(w w':World)(v:Value)(n:Nat)(a b c:Nat->Int)(room gap:Int):Prop:=
 ((n=0∨200<n)∧v=.slice none 0 0∧w'=w)∨(0<n∧n≤200∧∃lb g,v=Sq lb n n∧FRow w' lb 0 n (offs g (cl gap))∧SplitIs n (fun j=>cl (a j)) (fun j=>hMax (a j) (b j)) (fun j=>cl (c j)) (rm room gap n) g∧Below w.heap.size w w')
theorem OffV.below{w w'}{v}{n}{a b c}{room gap}(h:OffV w w' v n a b c room gap):Below w.heap.size w w':=by
 rcases h with⟨_,_,rfl⟩|⟨_,_,lb,g,_,_,_,h⟩;·exact Below.refl _ _
 ·exact h
theorem off_upd g  cg  k  j :upd (fun j=>if j<k then offs g cg j else g j) k (offs g cg k) j=if j<k+1 then offs g cg j else g j:=by
 unfold upd;by_cases e:j=k;·subst e;rw[if_pos rfl,if_pos (by omega)]
 ·rw[if_neg e];dsimp only;by_cases e2:j<k;·rw[if_pos e2,if_pos (by omega)]
  ·rw[if_neg e2,if_neg (by omega)]
def OffLow(w:World)(v:Value):Prop:=∀lb o n c,v=.slice (some ⟨lb,o,none⟩) n c->w.heap.size≤lb
theorem offsets_low v  n  a b c  room gap  w (h:WIn w v n a b c)(hn:n≤5864062014805):
 Calls prog 147 #[Iq room,Iq gap,v] w fun e w'=>∃v,e=.returned v∧OffV w w' v n a b c room gap∧OffLow w v:=by
 have C2:Hid (Calls prog 140 #[Iq room,Iq gap,v] w fun e w'=>∃v,e=.returned v∧SplitV w w' v n a b c room gap):=split_all v n a b c room gap w h hn;have CC:Hid (∀w,Calls prog 168 #[Iq gap] w fun e w'=>e=.returned (Iq (cl gap))∧w'=w):=fun w=>shClamped_any gap w;have hcg:=cl_bd gap;obtain⟨cg,hcge⟩:=nmd (cl gap);have HCG:Hid (cl gap=cg):=hcge;rw[hcge]at CC hcg;have cg0:=hcg.1;have cg1:=hcg.2;clear h hcge hcg;go_enter func147,ntmps147;go_wp2_with fail;refine C2.out.mono ?_;rintro e w2 ⟨v2,rfl,hs⟩;clear C2;rcases hs with⟨h0,rfl,rfl⟩|⟨h1,h2,lb,rfl,hlb,⟨g,hrow,hsp⟩,hbel⟩
 ·have HO:Hid (OffV w2 w2 (.slice none 0 0) n a b c room gap):=.inl ⟨h0,rfl,rfl⟩;clear h0;go_wp2;go_loop[8,17] (fun s i=>s=Iq 0∧i=Iq 0) (fun _ _=>0);case atStart=>exact⟨rfl,rfl⟩
  case round=>obtain⟨rfl,rfl⟩:=hrel;go_wp2;go_ret;exact⟨_,rfl,HO.out,fun lb o n c e=>by cases e⟩
 ·have hgb:∀j,j<n->0≤g j∧g j≤100000:=fun j hj=>by have h1:=(hsp.tiles (held_bds a b c)).1 j hj;have h2:=held_bds a b c j;omega
  have HGB:Hid (∀j,j<n->0≤g j∧g j≤100000):=hgb;have HOB:Hid (∀k,k≤n->0≤offs g cg k∧offs g cg k≤(k:Int)*200000):=fun k hk=>offs_bd hgb ⟨cg0,cg1⟩ k hk;have HSP:Hid (SplitIs n (fun j=>cl (a j)) (fun j=>hMax (a j) (b j)) (fun j=>cl (c j)) (rm room gap n) g):=hsp;have R0:Hid (FRow w2 lb 0 n (fun j=>if j<0 then offs g cg j else g j)∧Below w.heap.size w w2):=⟨hrow.congr fun j _=>by simp,hbel⟩;clear hgb hsp hrow hbel;go_wp2;go_loopw[8,17] (fun s i wr=>∃k:Nat,s=Iq (offs g cg k)∧i=Iq k∧k≤n∧Hid (FRow wr lb 0 n (fun j=>if j<k then offs g cg j else g j)∧Below w.heap.size w wr)) (fun _ i _=>n-(intOf i).toNat);case atStart=>exact⟨0,rfl,rfl,Nat.zero_le _,R0.out⟩
  case round=>
   obtain⟨k,rfl,rfl,hk,HR⟩:=hrel;by_cases hlt:k<n
   ·have hlt':(k:Int)<(n:Int):=by omega
    have hc:=HR.out.1.2 k hlt;dsimp only at hc;rw[if_neg (by omega),Nat.zero_add]at hc;have hgk:=HGB.out k hlt;have ho1:=HOB.out k hk;have ho2:=HOB.out (k+1) (by omega);have hnx:=offs_next g cg k;have hset:=HR.out.1.set k (offs g cg k) hlt;rw[Nat.zero_add]at hset;have HN:Hid (FRow (wr.setCell ⟨lb,k,none⟩ (Iq (offs g cg k))) lb 0 n (fun j=>if j<k+1 then offs g cg j else g j)∧Below w.heap.size w (wr.setCell ⟨lb,k,none⟩ (Iq (offs g cg k)))):=⟨hset.congr fun j _=>off_upd g cg k j,HR.out.2.setCell hlb _⟩;obtain⟨gk,hgke⟩:=nmd (g k);rw[hgke]at hc hgk hnx;obtain⟨o1,ho1e⟩:=nmd (offs g cg k);rw[ho1e]at ho1 hnx HN⊢;have HNX:Hid (offs g cg (k+1)=o1+(gk+cg)):=hnx;obtain⟨cl1,fl1⟩:=hc;obtain⟨gk0,gk1⟩:=hgk;obtain⟨o10,o11⟩:=ho1;clear hset hgke ho1e ho2 hnx HR;go_wp2_with(go_at_call 168;refine(CC.out _).mono ?_;rintro e w5 ⟨rfl,rfl⟩);go_roundw;case rel=>exact⟨k+1,by rw[HNX.out],by go_num,by omega,HN.out⟩
    case measure=>simp[intOf];omega
   ·have hge:¬(k:Int)<(n:Int):=by omega
    obtain rfl:n=k:=by omega
    have HF:Hid (OffV w wr (Sq lb n n) n a b c room gap):=.inr ⟨h1,h2,lb,g,rfl,by rw[HCG.out];exact HR.out.1.congr fun j hj=>by rw[if_pos hj],HSP.out,HR.out.2⟩;clear HR;go_wp2;go_ret;exact⟨_,rfl,HF.out,fun lb' o n' c' e=>by injection e with e1;injection e1 with e1;injection e1 with e1;omega⟩
theorem rCl_any x  w :
 Calls prog 30 #[Iq x] w fun e w'=>e=.returned (Iq (cl x))∧w'=w:=by
 obtain⟨y,hy⟩:=nmd (cl x);rw[hy];unfold cl at hy;by_cases h1:x<0;·rw[if_pos h1]at hy;subst hy;go_enter func30,ntmps30;go_wp2;go_ret;exact⟨rfl,rfl⟩
 ·rw[if_neg h1]at hy;by_cases h2:100000<x;·rw[if_pos h2]at hy;subst hy;go_enter func30,ntmps30;go_wp2;go_ret;exact⟨rfl,rfl⟩
  ·rw[if_neg h2]at hy;subst hy;go_enter func30,ntmps30;go_wp2;go_ret;exact⟨rfl,rfl⟩
theorem rRoom_one room gap (n:Nat)(hn:n≤1) w :
 Calls prog 59 #[Iq room,Iq gap,Iq n] w fun e w'=>e=.returned (Iq (cl room))∧w'=w:=by
 have C1:=qH<|fun w=>rCl_any room w;obtain⟨cr,hcr⟩:=nmd (cl room);have b:=cl_bd room;rw[hcr]at C1 b⊢;have b1:=b.1;have h1:¬(1:Int)<(n:Int):=by omega
 have h2:¬cr<0:=by omega
 clear b hcr;go_enter func59,ntmps59;go_wp2_with(go_at_call 30;refine(C1 _).mono ?_;rintro e w5 ⟨rfl,rfl⟩);go_ret;exact⟨rfl,rfl⟩
theorem rRoom_any room gap (n:Nat)(hn0:0<n)(hn:n≤200) w :
 Calls prog 59 #[Iq room,Iq gap,Iq n] w fun e w'=>e=.returned (Iq (rm room gap n))∧w'=w:=by
 by_cases hn1:n≤1
 ·obtain rfl:n=1:=by omega
  have:=rRoom_one room gap 1 (by omega) w;have e:rm room gap 1=cl room:=by unfold rm;have:=cl_bd room;omega
  rw[e];exact this
 ·have C1:=qH<|fun w=>rCl_any room w;have C2:=qH<|fun w=>rCl_any gap w;obtain⟨rr,hrr⟩:=nmd (rm room gap n);rw[hrr];unfold rm at hrr;obtain⟨cr,hcr⟩:=nmd (cl room);obtain⟨cg,hcg⟩:=nmd (cl gap);have b:=cl_bd room;have d:=cl_bd gap;rw[hcr]at C1 b hrr;rw[hcg]at C2 d hrr;have b1:=b.1;have b2:=b.2;have d1:=d.1;have d2:=d.2;have hn2:(1:Int)<(n:Int):=by omega
  have HR:=qH<|hrr;clear b hcr d hcg hrr;go_enter func59,ntmps59;go_wp2_with(go_at_call 30;first|(refine(C1 _).mono ?_;rintro e w5 ⟨rfl,rfl⟩)|(refine(C2 _).mono ?_;rintro e w5 ⟨rfl,rfl⟩));go_loop[7,9] (fun r k=>∃(j:Nat) (x:Int),r=Iq x∧k=Iq j∧1≤j∧j≤n∧-100000≤x∧x≤100000∧Hid (x=cr-cg*((j:Int)-1))) (fun _ k=>n-(intOf k).toNat);case atStart=>exact⟨1,cr,rfl,rfl,by omega,by omega,by omega,by omega,by simp[Hid]⟩
  case round=>
   obtain⟨j,x,rfl,rfl,hj1,hj2,hx1,hx2,HX⟩:=hrel;by_cases hlt:j<n
   ·have hlt':(j:Int)<(n:Int):=by omega
    by_cases hpos:0<x
    ·have HX2:Hid (x-cg=cr-cg*(((j+1:Nat):Int)-1)):=by show _=_;rw[HX.out,show(((j+1:Nat):Int)-1)=((j:Int)-1)+1 by omega,Int.mul_add,Int.mul_one];omega
     clear HX;go_wp2;go_round;case rel=>exact⟨j+1,x-cg,rfl,by go_num,by omega,by omega,by omega,by omega,HX2⟩
     case measure=>simp[intOf];omega
    ·have hrr:rr=0:=by rw[<-HR.out];have e:=HX.out;have:cg*((j:Int)-1)≤cg*((n:Int)-1):=Int.mul_le_mul_of_nonneg_left (by omega) d1;omega
     subst hrr;clear HX;by_cases hz:x<0;·go_wp2;go_ret;exact⟨rfl,rfl⟩
     ·obtain rfl:x=0:=by omega
      go_wp2;go_ret;exact⟨rfl,rfl⟩
   ·have hlt':¬(j:Int)<(n:Int):=by omega
    obtain rfl:n=j:=by omega
    by_cases hz:x<0
    ·have hrr:rr=0:=by rw[<-HR.out,<-HX.out];omega
     subst hrr;clear HX;go_wp2;go_ret;exact⟨rfl,rfl⟩
    ·have hrr:rr=x:=by rw[<-HR.out,<-HX.out];omega
     subst hrr;clear HX;go_wp2;go_ret;exact⟨rfl,rfl⟩
theorem below3 w  a b c :Below w.heap.size w (((w.alloc a).alloc b).alloc c):=(((Below.refl _ _).alloc (Nat.le_refl _) _).alloc (by simp) _).alloc (by simp;omega) _
theorem rHeld_any a b c  w :
 Calls prog 58 #[.agg #[Iq a,Iq b,Iq c]] w fun e w'=>e=.returned (.agg #[Iq (cl a),Iq (hMax a b),Iq (cl c)])∧Below w.heap.size w w':=by
 have CC:=qH<|rCl_any;have ba:=cl_bd a;have ba1:=ba.1;have ba2:=ba.2;have HE:Hid (∀y,y=hMax a b->Ending.returned (.agg #[Iq (cl a),Iq y,Iq (cl c)])=.returned (.agg #[Iq (cl a),Iq (hMax a b),Iq (cl c)])):=fun y h=>by rw[h]
 clear ba;by_cases h1:b<0
 ·have HY:Hid (100000=hMax a b):=by show _=_;unfold hMax;rw[if_pos h1]
  have h2:¬0≤b:=by omega
  have h3:¬100000<cl a:=by omega
  go_enter func58,ntmps58;go_wp2_with(go_at_call 30;refine(CC _ _).mono ?_;rintro e w5 ⟨rfl,rfl⟩);exact bodyPost_ret (v:=.agg #[Iq (cl a),Iq 100000,Iq (cl c)]) (by simp[results,Tryz.results58,go_sem]) rfl ⟨HE _ HY,below3 _ _ _ _⟩
 ·have h2:0≤b:=by omega
  by_cases h3:cl b<cl a
  ·have HY:Hid (cl a=hMax a b):=by show _=_;unfold hMax;rw[if_neg h1,if_pos h3]
   go_enter func58,ntmps58;go_wp2_with(go_at_call 30;refine(CC _ _).mono ?_;rintro e w5 ⟨rfl,rfl⟩);exact bodyPost_ret (v:=.agg #[Iq (cl a),Iq (cl a),Iq (cl c)]) (by simp[results,Tryz.results58,go_sem]) rfl ⟨HE _ HY,below3 _ _ _ _⟩
  ·have HY:Hid (cl b=hMax a b):=by show _=_;unfold hMax;rw[if_neg h1,if_neg h3]
   go_enter func58,ntmps58;go_wp2_with(go_at_call 30;refine(CC _ _).mono ?_;rintro e w5 ⟨rfl,rfl⟩);exact bodyPost_ret (v:=.agg #[Iq (cl a),Iq (cl b),Iq (cl c)]) (by simp[results,Tryz.results58,go_sem]) rfl ⟨HE _ HY,below3 _ _ _ _⟩
theorem prod_bd{x y B C:Int}(hx0:0≤x)(hx:x≤B)(hy0:0≤y)(hy:y≤C)(hB:0≤B):0≤x*y∧x*y≤B*C:=
 ⟨Int.mul_nonneg hx0 hy0,Int.mul_le_mul hx hy hy0 hB⟩
theorem lev_bd{a b c p q}(ha:0≤a)(hb:0≤b)(hb2:b≤100000)(hc:0≤c)(hp:0≤p)(hq0:0≤q)(hq:q≤20000000):0≤levI a b c p q∧levI a b c p q≤2000000000000:=by have h1:=prod_bd hb hb2 hq0 hq (by omega);have h2:=Int.mul_nonneg ha hq0;have h3:=Int.mul_nonneg hp hc;unfold levI;split<;>omega
theorem rLevel_any a b c p q  w (ha:0≤a∧a≤100000)(hb:0≤b∧b≤100000)(hc:0≤c∧c≤100000)(hp:0≤p∧p≤20000000)(hq:0≤q∧q≤20000000):
 Calls prog 62 #[.agg #[Iq a,Iq b,Iq c],Iq p,Iq q] w fun e w'=>e=.returned (Iq (levI a b c p q))∧Below w.heap.size w w':=by
 have h1:=prod_bd ha.1 ha.2 hq.1 hq.2 (by omega);have h2:=prod_bd hb.1 hb.2 hq.1 hq.2 (by omega);have h3:=prod_bd hp.1 hp.2 hc.1 hc.2 (by omega);obtain⟨z,hz⟩:=nmd (levI a b c p q);rw[hz];unfold levI at hz;obtain⟨aq,haq⟩:=nmd (a*q);obtain⟨bq,hbq⟩:=nmd (b*q);obtain⟨pc,hpc⟩:=nmd (p*c);rw[haq,hbq,hpc]at hz;rw[haq]at h1;rw[hbq]at h2;rw[hpc]at h3;have a1:=h1.1;have a2:=h1.2;have a3:=h2.1;have a4:=h2.2;have a5:=h3.1;have a6:=h3.2;clear h1 h2 h3 ha hb hc hp hq;by_cases c1:bq<aq+pc;·rw[if_pos c1]at hz;subst hz;go_enter func62,ntmps62;go_wp2;go_ret;exact⟨rfl,(Below.refl _ _).alloc (Nat.le_refl _) _⟩
 ·rw[if_neg c1]at hz;subst hz;go_enter func62,ntmps62;go_wp2;go_ret;exact⟨rfl,(Below.refl _ _).alloc (Nat.le_refl _) _⟩
theorem rTotal_any n blk off cap  Mn Mx Wt  p q  w (h:WRow w blk off n Mn Mx Wt)(hn:n≤200)(hM:Heldb Mn Mx Wt)(hp:0≤p∧p≤20000000)(hq:0≤q∧q≤20000000):
 Calls prog 94 #[.slice (some ⟨blk,off,none⟩) n cap,Iq p,Iq q] w fun e w'=>e=.returned (Iq (totI n Mn Mx Wt p q))∧Below w.heap.size w w':=by
 have HW:=qH<|h;have HM:=qH<|hM;have HPQ:Hid ((0≤p∧p≤20000000)∧(0≤q∧q≤20000000)):=⟨hp,hq⟩;have CL:=qH<|fun a b c w ha hb hc=>rLevel_any a b c p q w ha hb hc hp hq;clear h hM hp hq;go_enter func94,ntmps94;go_wp2;go_loopw[7,8] (fun s i wr=>∃(k:Nat) (x:Int),s=Iq x∧i=Iq k∧k≤n∧0≤x∧x≤(k:Int)*2000000000000∧Hid (x=totI k Mn Mx Wt p q)∧Below w.heap.size w wr) (fun _ i _=>n-(intOf i).toNat);case atStart=>exact⟨0,0,rfl,rfl,Nat.zero_le _,by omega,by omega,rfl,Below.refl _ _⟩
 case round=>
  obtain⟨k,x,rfl,rfl,hk,x0,x1,HX,hbw⟩:=hrel;by_cases hlt:k<n
  ·have hlt':(k:Int)<(n:Int):=by omega
   have hw1:=HW.below hbw;obtain⟨c0,c1,c2⟩:=hw1.2 k hlt;have hz:=hw1.1;have hm:=HM k;obtain⟨a1,ha1⟩:=nmd (Mn k);obtain⟨a2,ha2⟩:=nmd (Mx k);obtain⟨a3,ha3⟩:=nmd (Wt k);rw[ha1]at c0;rw[ha2]at c1;rw[ha3]at c2;rw[ha1,ha2,ha3]at hm;obtain⟨d1,d2,d3,d4,d5⟩:=hm;have C:=CL a1 a2 a3 wr ⟨d1,by omega⟩ ⟨by omega,d3⟩ ⟨d4,d5⟩;obtain⟨lv,hlv⟩:=nmd (levI a1 a2 a3 p q);have hlb:=lev_bd (a:=a1) (b:=a2) (c:=a3) (p:=p) (q:=q) d1 (by omega) d3 d4 HPQ.1.1 HPQ.2.1 HPQ.2.2;rw[hlv]at C hlb;have HC:Hid _:=C;have HX2:Hid (x+lv=totI (k+1) Mn Mx Wt p q):=by show _=_;unfold totI;rw[List.range_succ,sumL_snoc,ha1,ha2,ha3,hlv];have:=HX.out;unfold totI at this;omega
   have l1:=hlb.1;have l2:=hlb.2;have hk1:((k+1:Nat):Int)*2000000000000=(k:Int)*2000000000000+2000000000000:=by omega
   have hzr:=hbw.size;clear hw1 ha1 ha2 ha3 C hlv hlb HX;go_wp2_with fail;refine Calls.mono HC ?_;rintro e w5 ⟨rfl,b5⟩;have hb6:=hbw.trans (b5.mono hzr);clear b5 hbw HC;go_wp2;go_roundw;case rel=>exact⟨k+1,x+lv,rfl,by go_num,by omega,by omega,by omega,HX2,hb6⟩
   case measure=>simp[intOf];omega
  ·have hge:¬(k:Int)<(n:Int):=by omega
   obtain rfl:n=k:=by omega
   have HE:Hid (Ending.returned (Iq x)=.returned (Iq (totI n Mn Mx Wt p q))):=by show _=_;rw[HX.out]
   clear HX;go_wp2;go_ret;exact⟨HE,hbw⟩
theorem rOpen_any n blk off cap  Mn Mx Wt  p q  w (h:WRow w blk off n Mn Mx Wt)(hn:n≤200)(hM:Heldb Mn Mx Wt)(hp:0≤p∧p≤100000)(hq:0≤q∧q≤100000):
 Calls prog 93 #[.slice (some ⟨blk,off,none⟩) n cap,Iq p,Iq q] w fun e w'=>e=.returned (.tuple #[Iq (opW n Mn Mx Wt p q),Iq (opB n Mn Mx Wt p q)])∧Below w.heap.size w w':=by
 have HW:=qH<|h;have HM:=qH<|hM;have p0:=hp.1;have p1:=hp.2;have q0:=hq.1;have q1:=hq.2;clear h hM hp hq;go_enter func93,ntmps93;go_wp2;go_loopw[8,9,10] (fun s t i wr=>∃(k:Nat) (x y:Int),s=Iq x∧t=Iq y∧i=Iq k∧k≤n∧0≤x∧x≤(k:Int)*100000∧0≤y∧y≤(k:Int)*100000∧Hid (x=opW k Mn Mx Wt p q)∧Hid (y=opB k Mn Mx Wt p q)∧Below w.heap.size w wr) (fun _ _ i _=>n-(intOf i).toNat);case atStart=>exact⟨0,0,0,rfl,rfl,rfl,Nat.zero_le _,by omega,by omega,by omega,by omega,rfl,rfl,Below.refl _ _⟩
 case round=>
  obtain⟨k,x,y,rfl,rfl,rfl,hk,x0,x1,y0,y1,HX,HY,hbw⟩:=hrel;by_cases hlt:k<n
  ·have hlt':(k:Int)<(n:Int):=by omega
   have hw1:=HW.below hbw;obtain⟨c0,c1,c2⟩:=hw1.2 k hlt;have hz:=hw1.1;have hm:=HM k;obtain⟨a1,ha1⟩:=nmd (Mn k);obtain⟨a2,ha2⟩:=nmd (Mx k);obtain⟨a3,ha3⟩:=nmd (Wt k);rw[ha1]at c0;rw[ha2]at c1;rw[ha3]at c2;rw[ha1,ha2,ha3]at hm;obtain⟨d1,d2,d3,d4,d5⟩:=hm;have hk1:((k+1:Nat):Int)*100000=(k:Int)*100000+100000:=by omega
   have hzr:=hbw.size;have hSX:opW (k+1) Mn Mx Wt p q=x+(if risB a1 a2 a3 p q then a3 else 0):=by unfold opW;rw[List.range_succ,sumL_snoc,ha1,ha2,ha3];have:=HX.out;unfold opW at this;omega
   have hSY:opB (k+1) Mn Mx Wt p q=y+(if risB a1 a2 a3 p q then a1 else if 0<a3 then a2 else a1):=by unfold opB;rw[List.range_succ,sumL_snoc,ha1,ha2,ha3];have:=HY.out;unfold opB at this;omega
   have h1:=prod_bd d1 (show a1≤100000 by omega) q0 q1 (by omega);have h2:=prod_bd (show 0≤a2 by omega) d3 q0 q1 (by omega);have h3:=prod_bd p0 p1 d4 d5 (by omega);obtain⟨aq,haq⟩:=nmd (a1*q);obtain⟨bq,hbq⟩:=nmd (a2*q);obtain⟨pc,hpc⟩:=nmd (p*a3);have hrb:risB a1 a2 a3 p q=decide (0<a3∧aq+pc<bq):=by unfold risB;rw[haq,hbq,hpc]
   rw[haq]at h1;rw[hbq]at h2;rw[hpc]at h3;obtain⟨r1,r2⟩:=h1;obtain⟨r3,r4⟩:=h2;obtain⟨r5,r6⟩:=h3;rw[hrb]at hSX hSY;clear hrb hw1 ha1 ha2 ha3 HX HY;by_cases k1:0<a3
   ·by_cases k2:aq+pc<bq
    ·have HX2:Hid (x+a3=opW (k+1) Mn Mx Wt p q):=by show _=_;rw[hSX];simp[k1,k2]
     have HY2:Hid (y+a1=opB (k+1) Mn Mx Wt p q):=by show _=_;rw[hSY];simp[k1,k2]
     clear hSX hSY;go_wp2;go_roundw;case rel=>exact⟨k+1,x+a3,y+a1,rfl,rfl,by go_num,by omega,by omega,by omega,by omega,by omega,HX2,HY2,hbw.alloc hzr _⟩
     case measure=>simp[intOf];omega
    ·have HX2:Hid (x=opW (k+1) Mn Mx Wt p q):=by show _=_;rw[hSX];simp[k2]
     have HY2:Hid (y+a2=opB (k+1) Mn Mx Wt p q):=by show _=_;rw[hSY];simp[k1,k2]
     clear hSX hSY;go_wp2;go_roundw;case rel=>exact⟨k+1,x,y+a2,rfl,rfl,by go_num,by omega,by omega,by omega,by omega,by omega,HX2,HY2,hbw.alloc hzr _⟩
     case measure=>simp[intOf];omega
   ·have HX2:Hid (x=opW (k+1) Mn Mx Wt p q):=by show _=_;rw[hSX];simp[k1]
    have HY2:Hid (y+a1=opB (k+1) Mn Mx Wt p q):=by show _=_;rw[hSY];simp[k1]
    clear hSX hSY;go_wp2;go_roundw;case rel=>exact⟨k+1,x,y+a1,rfl,rfl,by go_num,by omega,by omega,by omega,by omega,by omega,HX2,HY2,hbw.alloc hzr _⟩
    case measure=>simp[intOf];omega
  ·have hge:¬(k:Int)<(n:Int):=by omega
   obtain rfl:n=k:=by omega
   have HE:Hid (Ending.returned (.tuple #[Iq x,Iq y])=.returned (.tuple #[Iq (opW n Mn Mx Wt p q),Iq (opB n Mn Mx Wt p q)])):=by show _=_;rw[HX.out,HY.out]
   clear HX HY;go_wp2;go_ret2;exact⟨HE,hbw⟩
theorem op_bds{n}{Mn Mx Wt}(hM:Heldb Mn Mx Wt)(hn:n≤200) p q :0≤opW n Mn Mx Wt p q∧opW n Mn Mx Wt p q≤20000000∧0≤opB n Mn Mx Wt p q∧opB n Mn Mx Wt p q≤20000000:=by
 have a1:0≤opW n Mn Mx Wt p q:=sumL_nonneg fun j _=>by have:=hM j;split<;>omega
 have a2:opW n Mn Mx Wt p q≤((List.range n).length:Int)*100000:=sumL_bound fun j _=>by have:=hM j;split<;>omega
 have a3:0≤opB n Mn Mx Wt p q:=sumL_nonneg fun j _=>by have:=hM j;split;omega;split<;>omega
 have a4:opB n Mn Mx Wt p q≤((List.range n).length:Int)*100000:=sumL_bound fun j _=>by have:=hM j;split;omega;split<;>omega
 rw[List.length_range]at a2 a4;omega
def BadTo(n:Nat)(Mn Mx Wt:Nat->Int)(r:Int)(i:Nat):Prop:=(0<i->¬goodAt n Mn Mx Wt r 0 1)∧∀j,j+1<i->0<Wt j->¬goodAt n Mn Mx Wt r (Mx j-Mn j) (Wt j)
def PourR(n:Nat)(Mn Mx Wt:Nat->Int)(r p q:Int):Prop:=(p=0∧q=0∧BadTo n Mn Mx Wt r (n+1))∨(0<q∧q≤20000000∧0≤p∧p≤100000∧totI n Mn Mx Wt p q=r*q)
theorem good_iff{n}{Mn Mx Wt}{r p q w b}(hw:opW n Mn Mx Wt p q=w)(hb:opB n Mn Mx Wt p q=b):goodAt n Mn Mx Wt r p q↔(w≠0∧0≤r-b∧p*w≤(r-b)*q∧totI n Mn Mx Wt (r-b) w=r*w):=by unfold goodAt;rw[hw,hb]
theorem rPoured_any n blk off cap  Mn Mx Wt  r  w (h:WRow w blk off n Mn Mx Wt)(hn:n≤200)(hM:Heldb Mn Mx Wt)(hr:0≤r∧r≤100000):
 Calls prog 61 #[.slice (some ⟨blk,off,none⟩) n cap,Iq r] w fun e w'=>∃p q,e=.returned (.tuple #[Iq p,Iq q])∧PourR n Mn Mx Wt r p q∧Below w.heap.size w w':=by
 have HW:=qH<|h;have HM:=qH<|hM;have r0:=hr.1;have r1:=hr.2;have CO:=qH<|fun p q w h hp hq=>rOpen_any n blk off cap Mn Mx Wt p q w h hn hM hp hq;have CT:=qH<|fun p q w h hp hq=>rTotal_any n blk off cap Mn Mx Wt p q w h hn hM hp hq;have HOB:=qH<|op_bds hM hn;clear h hM hr;go_enter func61,ntmps61;go_wp2;go_loopw[6] (fun i wr=>∃k:Nat,i=Iq ((k:Int)-1)∧k≤n+1∧Hid (BadTo n Mn Mx Wt r k)∧Below w.heap.size w wr) (fun i _=>((n:Int)-intOf i).toNat);case atStart=>exact⟨0,rfl,by omega,⟨fun h=>by omega,fun j hj=>by omega⟩,Below.refl _ _⟩
 case round=>
  obtain⟨k,rfl,hk,HBad,hbw⟩:=hrel;match k with
  |0=>
   have HBN:Hid (¬goodAt n Mn Mx Wt r 0 1->BadTo n Mn Mx Wt r (0+1)):=fun h=>⟨fun _=>h,fun j hj=>by omega⟩;have HWW:=HW.below hbw;have HBW:=qH<|hbw;have hi0:((0:Nat):Int)-1<(n:Int):=by omega
   clear hbw HBad;go_wp2_with fail;have HO:=CO 0 1 wr HWW ⟨by omega,by omega⟩ ⟨by omega,by omega⟩;have hob:=HOB 0 1;obtain⟨ow,how⟩:=nmd (opW n Mn Mx Wt 0 1);obtain⟨ob,hob2⟩:=nmd (opB n Mn Mx Wt 0 1);rw[how,hob2]at HO hob;have HOc:=qH<|HO;have HGI:=good_iff (r:=r) how hob2;obtain⟨ow0,ow1,ob0,ob1⟩:=hob;clear HO how hob2;refine Calls.mono HOc ?_;rintro e w5 ⟨rfl,b5⟩;have hb5:=HBW.trans (b5.mono HBW.size);have hs5:=hb5.size;clear b5 HOc;by_cases cw:ow=0
   ·have HN:=qH<|HBN fun hg=>(HGI.1 hg).1 cw;subst cw;clear HGI HBN;go_wp2;go_roundw;case rel=>exact⟨0+1,by go_num,by omega,HN,hb5⟩
    case measure=>first|(simp[intOf];done)|(simp[intOf];omega)
   ·have cw':(ow==0)=false:=by simpa using cw
    obtain⟨aa,haa⟩:=nmd (r-ob);rw[haa]at HGI;have aa1:aa≤100000:=by omega
    have aa0:-20000000≤aa:=by omega
    by_cases ca:aa<0
    ·have HN:=qH<|HBN fun hg=>by have:=(HGI.1 hg).2.1;omega
     clear HGI HBN;go_wp2;go_roundw;case rel=>exact⟨0+1,by go_num,by omega,HN,hb5⟩
     case measure=>first|(simp[intOf];done)|(simp[intOf];omega)
    ·have HG:=HGI;clear HGI;by_cases cx:aa*1<0*ow;·exact absurd cx (by omega)
     ·have hT:=CT aa ow w5 (HW.below hb5) ⟨by omega,by omega⟩ ⟨by omega,by omega⟩;obtain⟨tt,htt⟩:=nmd (totI n Mn Mx Wt aa ow);obtain⟨rw,hrw⟩:=nmd (r*ow);have rwb:=prod_bd r0 r1 ow0 ow1 (by omega);rw[hrw]at rwb;obtain⟨rwc,rwd⟩:=rwb;rw[htt]at hT;have HT:=qH<|hT;have HTT:=qH<|htt;have HRW:=qH<|hrw;have HN:=qH<|HBN.out;have HGc:=qH<|fun hg=>(HG.1 hg).2.2.2;clear HG hT htt HBN;go_wp2_with fail;refine Calls.mono HT ?_;rintro e w6 ⟨rfl,b6⟩;have hb6:=hb5.trans (b6.mono hs5);clear b6 HT;by_cases cT:tt=rw;·have HR:Hid (PourR n Mn Mx Wt r aa ow):=.inr ⟨by omega,ow1,by omega,by omega,by rw[HTT.out,HRW.out];exact cT⟩;subst cT;clear hb5 HTT HRW HGc HN;go_wp2;go_ret2;exact⟨aa,ow,rfl,HR,hb6⟩
      ·have HN2:=qH<|HN fun hg=>cT (by have:=HGc hg;rw[HTT.out,HRW.out]at this;exact this);have cT':(tt==rw)=false:=by simpa using cT
       clear hb5 HTT HRW HGc HN;go_wp2;go_roundw;case rel=>exact⟨0+1,by go_num,by omega,HN2,hb6⟩
       case measure=>first|(simp[intOf];done)|(simp[intOf];omega)
  |j+1=>
   by_cases hjn:j<n
   ·have hji:((j+1:Nat):Int)-1=(j:Int):=by omega
    rw[hji];have hjn':(j:Int)<(n:Int):=by omega
    have hw1:=HW.below hbw;obtain⟨c0,c1,c2⟩:=hw1.2 j hjn;have hz:=hw1.1;have hm:=HM j;obtain⟨a1,ha1⟩:=nmd (Mn j);obtain⟨a2,ha2⟩:=nmd (Mx j);obtain⟨a3,ha3⟩:=nmd (Wt j);obtain⟨pp,hpp⟩:=nmd (a2-a1);rw[ha1]at c0;rw[ha2]at c1;rw[ha3]at c2;rw[ha1,ha2,ha3]at hm;obtain⟨d1,d2,d3,d4,d5⟩:=hm;have HBN:Hid (¬(0<a3∧goodAt n Mn Mx Wt r pp a3)->BadTo n Mn Mx Wt r (j+1+1)):=fun h=>by
     refine⟨fun _=>HBad.1 (by omega),fun i hi hwi=>?_⟩;by_cases e:i=j;·subst e;rw[ha1,ha2,ha3,hpp];rw[ha3]at hwi;exact fun hg=>h ⟨hwi,hg⟩
     ·exact HBad.2 i (by omega) hwi
    clear ha1 ha2 ha3 hw1 HBad;by_cases c3:a3=0
    ·have HN:=qH<|HBN (by omega);subst c3;clear HBN;go_wp2;go_roundw;case rel=>exact⟨j+1+1,by go_num,by omega,HN,hbw⟩
     case measure=>first|(simp[intOf];done)|(simp[intOf];omega)
    ·have c3':(a3==0)=false:=by simpa using c3
     have HBN2:Hid (¬goodAt n Mn Mx Wt r pp a3->BadTo n Mn Mx Wt r (j+1+1)):=fun h=>HBN fun hg=>h hg.2;clear HBN;have wpp:IntKind.i64.wrap pp=pp:=IntWalk.i64_in _ ⟨by omega,by omega⟩;have HWW:WRow wr.drew blk off n Mn Mx Wt:=HW.below (below_drewN hbw 1);have HBW:Hid (Below w.heap.size w wr.drew):=below_drewN hbw 1;have c2d:wr.drew.cell? ⟨blk,off+j*3+2,none⟩=some (Iq a3):=c2;have pp0:0≤pp:=by omega
     have pp1:pp≤100000:=by omega
     have a30:1≤a3:=by omega
     clear hbw;go_wp2_with fail;go_big_region;go_wp2_with fail;clear hpp;have HO:=CO pp a3 wr.drew HWW ⟨by omega,by omega⟩ ⟨by omega,by omega⟩;have hob:=HOB pp a3;obtain⟨ow,how⟩:=nmd (opW n Mn Mx Wt pp a3);obtain⟨ob,hob2⟩:=nmd (opB n Mn Mx Wt pp a3);rw[how,hob2]at HO hob;have HOc:=qH<|HO;have HGI:=good_iff (r:=r) how hob2;obtain⟨ow0,ow1,ob0,ob1⟩:=hob;clear HO how hob2;refine Calls.mono HOc ?_;rintro e w5 ⟨rfl,b5⟩;have hb5:=HBW.trans (b5.mono HBW.size);have hs5:=hb5.size;clear b5 HOc;by_cases cw:ow=0
     ·have HN:=qH<|HBN2 fun hg=>(HGI.1 hg).1 cw;subst cw;clear HGI HBN2;go_wp2;go_roundw;case rel=>exact⟨j+1+1,by go_num,by omega,HN,hb5⟩
      case measure=>first|(simp[intOf];done)|(simp[intOf];omega)
     ·have cw':(ow==0)=false:=by simpa using cw
      obtain⟨aa,haa⟩:=nmd (r-ob);rw[haa]at HGI;have aa1:aa≤100000:=by omega
      have aa0:-20000000≤aa:=by omega
      by_cases ca:aa<0
      ·have HN:=qH<|HBN2 fun hg=>by have:=(HGI.1 hg).2.1;omega
       clear HGI HBN2;go_wp2;go_roundw;case rel=>exact⟨j+1+1,by go_num,by omega,HN,hb5⟩
       case measure=>first|(simp[intOf];done)|(simp[intOf];omega)
      ·have HG:=HGI;clear HGI;obtain⟨x1,hx1⟩:=nmd (aa*a3);obtain⟨x2,hx2⟩:=nmd (pp*ow);rw[hx1,hx2]at HG;have x1b:=prod_bd (show 0≤aa by omega) (show aa≤100000 by omega) (show 0≤a3 by omega) (show a3≤100000 by omega) (by omega);have x2b:=prod_bd (show 0≤pp by omega) (show pp≤100000 by omega) (show 0≤ow by omega) ow1 (by omega);rw[hx1]at x1b;rw[hx2]at x2b;obtain⟨x1c,x1d⟩:=x1b;obtain⟨x2c,x2d⟩:=x2b;by_cases cx:x1<x2
       ·have HN:=qH<|HBN2 fun hg=>by have:=(HG.1 hg).2.2.1;omega
        clear HG HBN2;go_wp2;go_roundw;case rel=>exact⟨j+1+1,by go_num,by omega,HN,hb5⟩
        case measure=>first|(simp[intOf];done)|(simp[intOf];omega)
       ·have hT:=CT aa ow w5 (HW.below hb5) ⟨by omega,by omega⟩ ⟨by omega,by omega⟩;obtain⟨tt,htt⟩:=nmd (totI n Mn Mx Wt aa ow);obtain⟨rw,hrw⟩:=nmd (r*ow);have rwb:=prod_bd r0 r1 ow0 ow1 (by omega);rw[hrw]at rwb;obtain⟨rwc,rwd⟩:=rwb;rw[htt]at hT;have HT:=qH<|hT;have HTT:=qH<|htt;have HRW:=qH<|hrw;have HN:=qH<|HBN2.out;have HGc:=qH<|fun hg=>(HG.1 hg).2.2.2;clear HG hT htt HBN2;go_wp2_with fail;refine Calls.mono HT ?_;rintro e w6 ⟨rfl,b6⟩;have hb6:=hb5.trans (b6.mono hs5);clear b6 HT;by_cases cT:tt=rw;·have HR:Hid (PourR n Mn Mx Wt r aa ow):=.inr ⟨by omega,ow1,by omega,by omega,by rw[HTT.out,HRW.out];exact cT⟩;subst cT;clear hb5 HTT HRW HGc HN;go_wp2;go_ret2;exact⟨aa,ow,rfl,HR,hb6⟩
        ·have HN2:=qH<|HN fun hg=>cT (by have:=HGc hg;rw[HTT.out,HRW.out]at this;exact this);have cT':(tt==rw)=false:=by simpa using cT
         clear hb5 HTT HRW HGc HN;go_wp2;go_roundw;case rel=>exact⟨j+1+1,by go_num,by omega,HN2,hb6⟩
         case measure=>first|(simp[intOf];done)|(simp[intOf];omega)
   ·obtain rfl:n=j:=by omega
    have hjn':¬((n+1:Nat):Int)-1<(n:Int):=by omega
    have HR:Hid (PourR n Mn Mx Wt r 0 0):=.inl ⟨rfl,rfl,HBad⟩;clear HBad;go_wp2;go_ret2;exact⟨0,0,rfl,HR,hbw⟩
theorem SSt.set{w wr}{cw lb n k}{mn mx wt}(h:SSt w wr cw lb n k mn mx wt)(hk:k<n)(hne:lb≠cw)(hB:w.heap.size≤lb):SSt w (wr.setCell ⟨lb,0+k,none⟩ (Iq (mn k))) cw lb n (k+1) mn mx wt:=by
 refine⟨(h.len.set k (mn k) hk).congr fun j hj=>?_,h.want.other _ _ _ hne,h.bel.setCell hB _⟩;unfold upd;by_cases e:j=k;·subst e;rw[if_pos rfl,if_pos (by omega)]
 ·rw[if_neg e];dsimp only;by_cases e2:j<k;·rw[if_pos e2,if_pos (by omega)]
  ·rw[if_neg e2,if_neg (by omega)]
theorem sumL_upd g  n c (hc:c<n) v :sumL (upd g c v) (List.range n)=sumL g (List.range n)-g c+v:=by
 have e:sumL (upd g c v) (List.range n)=sumL g (List.range n)+sumL (fun j=>if j∈[c]then v-g j else 0) (List.range n):=by
  rw[<-sumL_add];refine sumL_congr fun j _=>?_;unfold upd;by_cases e:j=c;·subst e;simp;omega
  ·simp[e]
 rw[e,sumL_if (by simp) (fun j hj=>by simp at hj;omega)];rw[sumL_cons,sumL_nil];omega
structure ShrI(n:Nat)(mn:Nat->Int)(r:Int)(c:Nat)(s:Int)(g:Nat->Int):Prop where
 ahead:∀j,j<c->g j=mn j
 bd:∀j,j<n->0≤g j∧g j≤mn j
 sum:s=sumL g (List.range n)
 ge:r≤s
 zero:r<s->∀j,c≤j->j<n->g j=0
 behind:∀i k,i<k->k<n->g i<mn i->g k=0
theorem ShrI.next{n}{mn}{r}{c}{s}{g}(h:ShrI n mn r (c+1) s g)(hc:c<n)(hrs:r<s) y (hy:y=min (s-r) (g c)):ShrI n mn r c (s-y) (upd g c (g c-y)):=by
 have hb:=h.bd c hc;have hne:∀j,j≠c->upd g c (g c-y) j=g j:=fun j e=>by unfold upd;rw[if_neg e]
 have heq:upd g c (g c-y) c=g c-y:=by unfold upd;rw[if_pos rfl]
 refine⟨fun j hj=>?_,fun j hj=>?_,?_,by have:=h.ge;omega,fun hlt j h1 h2=>?_,fun i k hik hk hlt=>?_⟩;·rw[hne j (by omega)];exact h.ahead j (by omega)
 ·by_cases e:j=c;·subst e;rw[heq];omega
  ·rw[hne j e];exact h.bd j hj
 ·rw[sumL_upd g n c hc,<-h.sum];omega
 ·by_cases e:j=c;·subst e;rw[heq];omega
  ·rw[hne j e];exact h.zero hrs j (by omega) h2
 ·by_cases e:k=c;·subst e;rw[hne i (by omega),h.ahead i (by omega)]at hlt;omega
  ·rw[hne k e];by_cases e2:k<c;·rw[hne i (by omega),h.ahead i (by omega)]at hlt;omega
   ·exact h.zero hrs k (by omega) hk
theorem ShrI.back{n}{mn}{r}{c}{s}{g}(h:ShrI n mn r c s g)(hr:0≤r)(he:c=0∨s≤r):Back n mn r g:=by
 refine⟨h.bd,?_,h.behind⟩;by_cases e:r<s
 ·rcases he with e2|e2
  ·subst e2;have hz:sumL g (List.range n)≤0:=by
    have:sumL g (List.range n)≤((List.range n).length:Int)*0:=sumL_bound fun j hj=>by rw[h.zero e j (by omega) (by simpa using hj)];exact Int.le_refl _
    omega
   have:=h.sum;omega
  ·omega
 ·have:=h.sum;have:=h.ge;omega
theorem rShrunk_any n blk cap  Mn Mx Wt  r  w (h:WRow w blk 0 n Mn Mx Wt)(hn:n≤200)(hM:Heldb Mn Mx Wt)(hr:0≤r∧r≤100000)(hlt:r<sumL Mn (List.range n)):
 Calls prog 60 #[Sq blk n cap,Iq r] w fun e w'=>e=.returned (Sq w.heap.size n n)∧(∃g,FRow w' w.heap.size 0 n g∧Back n Mn r g)∧Below w.heap.size w w':=by
 have HW:=qH<|h;have HM:=qH<|hM;have HLT:=qH<|hlt;have r0:=hr.1;have r1:=hr.2;have hzb:=h.1;have hmk:=run_make_row' (P:=prog) 67 3 (Iq 0) 8 underlying67 info3row rfl .i64 .i64 n (by omega) (by omega);clear h hM hr hlt;go_enter func60,ntmps60;go_wp2;have S0:Hid (SSt w (w.alloc (.cells (madeCells #[Iq 0] n) 3)) blk w.heap.size n 0 Mn Mx Wt):=by
  have b1:Below w.heap.size w (w.alloc (.cells (madeCells #[Iq 0] n) 3)):=(Below.refl _ w).alloc (Nat.le_refl _) _;refine⟨⟨by simp,fun j hj=>⟨?_,?_⟩⟩,HW.below b1,b1⟩;·rw[World.cell?_alloc_at _ _ _ _ rfl];simp[madeCells,hj,Nat.mod_one]
  ·rw[World.frozen?_alloc_at _ _ _ _ rfl]
 obtain⟨lb,hlb⟩:=nmd w.heap.size;have HSm:Hid (∀k,sumL Mn (List.range (k+1))=sumL Mn (List.range k)+Mn k):=fun k=>by rw[List.range_succ,sumL_snoc]
 have hBl:w.heap.size≤lb:=by omega
 have hbl:blk<lb:=by omega
 have HLB:=qH<|hlb;rw[hlb]at S0⊢;clear hmk HW;go_loopw[6,7] (fun s i wr=>∃(k:Nat) (x:Int),s=Iq x∧i=Iq k∧k≤n∧0≤x∧x≤(k:Int)*100000∧Hid (x=sumL Mn (List.range k))∧Hid (SSt w wr blk lb n k Mn Mx Wt)) (fun _ i _=>n-(intOf i).toNat);case atStart=>exact⟨0,0,rfl,rfl,Nat.zero_le _,by omega,by omega,rfl,S0⟩
 case round=>
  obtain⟨k,x,rfl,rfl,hk,x0,x1,HX,HS⟩:=hrel;by_cases hlt:k<n
  ·have hlt':(k:Int)<(n:Int):=by omega
   have hs:=HS.out;have hsm:=HSm k;have hcw:=(hs.want.2 k hlt).1;rw[Nat.zero_add]at hcw;obtain⟨a1,ha1⟩:=nmd (Mn k);have hmk:=HM k;rw[ha1]at hsm hcw hmk;have hzc:=hs.want.1;have hzl:=hs.len.1;have cl1:wr.cell? ⟨lb,k,none⟩=some (Iq 0):=by have:=(hs.len.2 k hlt).1;dsimp only at this;rw[if_neg (by omega),Nat.zero_add]at this;exact this
   have fl1:wr.frozen? ⟨lb,k,none⟩=false:=by have:=(hs.len.2 k hlt).2;rw[Nat.zero_add]at this;exact this
   have HX2:Hid (x+a1=sumL Mn (List.range (k+1))):=by show _=_;rw[hsm,HX.out]
   have HN:Hid (SSt w (wr.setCell ⟨lb,k,none⟩ (Iq a1)) blk lb n (k+1) Mn Mx Wt):=by have:=hs.set hlt (by omega) (by omega);rw[ha1,Nat.zero_add]at this;exact this
   have hm1:=hmk.1;have hm2:a1≤100000:=by omega
   have hk1:((k+1:Nat):Int)*100000=(k:Int)*100000+100000:=by omega
   clear hs hsm ha1 hmk HX HS;go_wp2;go_roundw;case rel=>exact⟨k+1,x+a1,rfl,by go_num,by omega,by omega,by omega,HX2,HN⟩
   case measure=>simp[intOf];omega
  ·have hge:¬(k:Int)<(n:Int):=by omega
   obtain rfl:n=k:=by omega
   have hs:=HS.out;have hrow:=hs.len.congr fun j hj=>by rw[if_pos hj]
   have I0:Hid (ShrI n Mn r n x Mn):=⟨fun _ _=>rfl,fun j _=>by have:=HM j;omega,HX,by rw[HX.out];exact Int.le_of_lt HLT,fun _ j h1 h2=>by omega,fun i k _ _ h=>by omega⟩;have R0:Hid (FRow wr lb 0 n Mn∧Below w.heap.size w wr):=⟨hrow,hs.bel⟩;clear hs hrow HX HS;go_wp2;go_loopw[6,8] (fun s i wq=>∃(c:Nat) (x:Int) (g:Nat->Int),s=Iq x∧i=Iq ((c:Int)-1)∧c≤n∧0≤x∧x≤20000000∧Hid (ShrI n Mn r c x g)∧Hid (FRow wq lb 0 n g∧Below w.heap.size w wq)) (fun _ i _=>(intOf i+1).toNat);case atStart=>exact⟨n,x,Mn,rfl,rfl,Nat.le_refl _,x0,by omega,I0,R0⟩
   case round=>
    obtain⟨c,s,g,rfl,rfl,hc,s0,s1,HI,HR⟩:=hrel;by_cases hgo:0<c∧r<s
    ·obtain⟨hc0,hrs⟩:=hgo;obtain⟨d,rfl⟩:∃d,c=d+1:=⟨c-1,by omega⟩;have hdn:d<n:=by omega
     have hd1:((d+1:Nat):Int)-1=(d:Int):=by omega
     rw[hd1];have hdn':(d:Int)<(n:Int):=by omega
     have hd0:(0:Int)≤(d:Int):=by omega
     have hcell:=(HR.1.2 d hdn);rw[Nat.zero_add]at hcell;have hgb:=HI.bd d hdn;have hmm:=HM d;obtain⟨x2,hx2⟩:=nmd (g d);rw[hx2]at hcell hgb;obtain⟨cl1,fl1⟩:=hcell;have b1:=hgb.1;have b2:x2≤100000:=by omega
     obtain⟨sr,hsr⟩:=nmd (s-r);have HNx:Hid (∀y,y=min sr x2->ShrI n Mn r d (s-y) (upd g d (x2-y))∧FRow (wr.setCell ⟨lb,d,none⟩ (Iq (x2-y))) lb 0 n (upd g d (x2-y))∧Below w.heap.size w (wr.setCell ⟨lb,d,none⟩ (Iq (x2-y)))):=fun y hy=>by have h1:=HI.next hdn hrs y (by rw[hsr,hx2];exact hy);rw[hx2]at h1;have h2:=HR.1.set d (x2-y) hdn;rw[Nat.zero_add]at h2;exact⟨h1,h2,HR.2.setCell hBl _⟩
     clear hgb hmm hx2 HI HR hd1;by_cases hgt:x2<sr
     ·have hN:=HNx x2 (by omega);have HN1:=qH<|hN.1;have HN2:Hid (FRow (wr.setCell ⟨lb,d,none⟩ (Iq 0)) lb 0 n (upd g d (x2-x2))∧Below w.heap.size w (wr.setCell ⟨lb,d,none⟩ (Iq 0))):=by have:=hN.2;rw[Int.sub_self]at this⊢;exact this
      clear hN HNx;go_wp2;go_roundw;case rel=>exact⟨d,s-x2,_,rfl,rfl,by omega,by omega,by omega,HN1,HN2⟩
      case measure=>simp[intOf]<;>omega
     ·have hN:=HNx sr (by omega);have HN1:=qH<|hN.1;have HN2:=qH<|hN.2;clear hN HNx;go_wp2;go_roundw;case rel=>exact⟨d,s-sr,_,rfl,rfl,by omega,by omega,by omega,HN1,HN2⟩
      case measure=>simp[intOf]<;>omega
    ·have HF:Hid (∃g,FRow wr lb 0 n g∧Back n Mn r g):=⟨g,HR.1,HI.back r0 (by omega)⟩;have HB:=qH<|HR.2;clear HI HR;by_cases hc0:0<c
     ·have hle:¬r<s:=by omega
      have hc1:(0:Int)≤(c:Int)-1:=by omega
      go_wp2;go_ret;exact⟨rfl,HF,by rw[<-HLB.out];exact HB⟩
     ·have hc1:¬(0:Int)≤(c:Int)-1:=by omega
      go_wp2;go_ret;exact⟨rfl,HF,by rw[<-HLB.out];exact HB⟩
theorem infoRWant:(prog.info? 120).map (fun i=>(i.zero,i.size,i.bytes))=some (some (.agg #[Iq 0,Iq 0,Iq 0]),3,24):=by kernel_rfl
theorem hb_held(a b c:Nat->Int):Heldb (fun j=>cl (a j)) (fun j=>hMax (a j) (b j)) (fun j=>cl (c j)):=fun j=>
 ⟨(cl_bd _).1,(hMax_bd _ _).1,(hMax_bd _ _).2,(cl_bd _).1,(cl_bd _).2⟩
theorem own_belowS{w w'}{B n size}{e}{v}{xs}(h:w.ownsRow B e size v n xs)(hb:Below w.heap.size w w'):w'.ownsRow B e size v n xs:=by
 refine⟨h.1,?_⟩;rcases h.2 with h2|⟨g,cap,cur,a,b,c,d⟩;·exact .inl h2
 ·exact .inr ⟨g,cap,cur,a,b,by rw[hb.block g (Array.getElem?_eq_some_iff.1 c).1];exact c,d⟩
theorem none_of{n}{Mn Mx Wt}{r}{g}(hM:Heldb Mn Mx Wt)(hsp:SplitIs n Mn Mx Wt r g)(hle:sumL Mn (List.range n)≤r)(hbad:BadTo n Mn Mx Wt r (n+1)):∀j,j<n->g j=if 0<Wt j then Mx j else Mn j:=by
 have hw:=fun j=>(hM j).2.1;have hp:=fun j=>(hM j).2.2.2.1;rcases hsp with⟨h1,_⟩|⟨_,A,S,L,V,m,h⟩;·omega
 ·obtain⟨nA,nS,hd,fA,fS,hall⟩:=h.facts;by_cases hS:S=[]
  ·subst hS;intro j hj;rw[h.is j hj];by_cases c:j∈A;·rw[if_pos c,if_pos (fA j c).2]
   ·rw[if_neg c,if_neg (by simp),if_neg];intro h2;rcases hall j hj h2 with h3|h3;·exact c h3
    ·simp at h3
  ·exfalso;rcases h.cand hw hp hS with h1|⟨i,hi,wi,h1⟩;·exact hbad.1 (by omega) h1
   ·exact hbad.2 i (by omega) wi h1
structure GSt(w wr:World)(lw ob n k:Nat)(mn mx wt g:Nat->Int):Prop where
 len:FRow wr ob 0 n (fun j=>if j<k then g j else 0)
 want:WRow wr lw 0 n mn mx wt
 bel:Below w.heap.size w wr
theorem upd_lt{g:Nat->Int}{k} v (hv:v=g k):∀j,upd (fun j=>if j<k then g j else 0) k v j=if j<k+1 then g j else 0:=fun j=>by
 unfold upd;by_cases e:j=k;·subst e;rw[if_pos rfl,if_pos (by omega),hv]
 ·rw[if_neg e];dsimp only;by_cases e2:j<k;·rw[if_pos e2,if_pos (by omega)]
  ·rw[if_neg e2,if_neg (by omega)]
theorem upd_upd g  k  x v :upd (upd g k x) k v=upd g k v:=by funext j;unfold upd;by_cases e:j=k<;>simp[e]
theorem GSt.set{w wr}{lw ob n k}{mn mx wt g}(h:GSt w wr lw ob n k mn mx wt g)(hk:k<n)(hne:ob≠lw)(hB:w.heap.size≤ob) v (hv:v=g k):GSt w (wr.setCell ⟨ob,k,none⟩ (Iq v)) lw ob n (k+1) mn mx wt g:=by have h1:=h.len.set k v hk;rw[Nat.zero_add]at h1;exact⟨h1.congr fun j _=>upd_lt v hv j,h.want.other _ _ _ hne,h.bel.setCell hB _⟩
theorem GSt.set2{w wr}{lw ob n k}{mn mx wt g}(h:GSt w wr lw ob n k mn mx wt g)(hk:k<n)(hne:ob≠lw)(hB:w.heap.size≤ob) x v (hv:v=g k):GSt w ((wr.setCell ⟨ob,k,none⟩ (Iq x)).setCell ⟨ob,k,none⟩ (Iq v)) lw ob n (k+1) mn mx wt g:=by have h1:=(h.len.set k x hk).set k v hk;rw[Nat.zero_add,upd_upd]at h1;exact⟨h1.congr fun j _=>upd_lt v hv j,(h.want.other _ _ _ hne).other _ _ _ hne,(h.bel.setCell hB _).setCell hB _⟩
structure HSt(w wr:World)(lw ob rb n k:Nat)(mn mx wt base rest:Nat->Int):Prop where
 len:FRow wr ob 0 n (fun j=>if j<k then base j else 0)
 res:FRow wr rb 0 n (fun j=>if j<k then rest j else 0)
 want:WRow wr lw 0 n mn mx wt
 bel:Below w.heap.size w wr
theorem HSt.below{w W W'}{lw ob rb n k}{mn mx wt base rest}(h:HSt w W lw ob rb n k mn mx wt base rest)(hb:Below W.heap.size W W'):HSt w W' lw ob rb n k mn mx wt base rest:=
 ⟨h.len.below hb,h.res.below hb,h.want.below hb,h.bel.trans (hb.mono h.bel.size)⟩
theorem HSt.set{w wr}{lw ob rb n k}{mn mx wt base rest}(h:HSt w wr lw ob rb n k mn mx wt base rest)(hk:k<n)(h1:lw<ob)(h2:ob<rb)(hB:w.heap.size≤ob) x y (hx:x=base k)(hy:y=rest k):HSt w ((wr.setCell ⟨ob,k,none⟩ (Iq x)).setCell ⟨rb,k,none⟩ (Iq y)) lw ob rb n (k+1) mn mx wt base rest:=by have a1:=(h.len.set k x hk);have a2:=((h.res.other ob k (Iq x) (by omega)).set k y hk);rw[Nat.zero_add]at a1 a2;exact⟨(a1.other _ _ _ (by omega)).congr fun j _=>upd_lt x hx j,a2.congr fun j _=>upd_lt y hy j,(h.want.other _ _ _ (by omega)).other _ _ _ (by omega),(h.bel.setCell hB _).setCell (by show _≤rb;omega) _⟩
structure KSt(w wr:World)(ob rb n:Nat)(base rest:Nat->Int)(S:List Nat)(t:Nat):Prop where
 len:FRow wr ob 0 n (fun j=>base j+(if j∈S.take t then 1 else 0))
 res:FRow wr rb 0 n (fun j=>if j∈S.take t then-1 else rest j)
 bel:Below w.heap.size w wr
theorem KSt.below{w W W'}{ob rb n}{base rest}{S}{t}(h:KSt w W ob rb n base rest S t)(hb:Below W.heap.size W W'):KSt w W' ob rb n base rest S t:=
 ⟨h.len.below hb,h.res.below hb,h.bel.trans (hb.mono h.bel.size)⟩
theorem KSt.next{w wr}{ob rb n}{base rest}{S}{t}(h:KSt w wr ob rb n base rest S t)(hS:S.Nodup)(ht:t<S.length) i (hi:S[t]?.getD 0=i)(hin:i<n)(h2:ob<rb)(hB:w.heap.size≤ob):
 KSt w ((wr.setCell ⟨ob,i,none⟩ (Iq (base i+1))).setCell ⟨rb,i,none⟩ (Iq (-1))) ob rb n base rest S (t+1):=by
 have htk:=takeN_next S t ht;have hni:=atN_notin hS ht;rw[hi]at htk hni;have hm:∀j,j∈S.take (t+1)↔j∈S.take t∨j=i:=fun j=>by rw[htk];simp
 have a1:=(h.len.set i (base i+1) hin);have a2:=((h.res.other ob i (Iq (base i+1)) (by omega)).set i (-1) hin);rw[Nat.zero_add]at a1 a2;refine⟨(a1.other _ _ _ (by omega)).congr fun j _=>?_,a2.congr fun j _=>?_,(h.bel.setCell hB _).setCell (by show _≤rb;omega) _⟩
 ·unfold upd;by_cases e:j=i;·subst e;rw[if_pos rfl,if_pos ((hm j).2 (.inr rfl))]
  ·rw[if_neg e];dsimp only;by_cases e2:j∈S.take t;·rw[if_pos e2,if_pos ((hm j).2 (.inl e2))]
   ·rw[if_neg e2,if_neg (fun h=>by rcases(hm j).1 h with h|h;exact e2 h;exact e h)]
 ·unfold upd;by_cases e:j=i;·subst e;rw[if_pos rfl,if_pos ((hm j).2 (.inr rfl))]
  ·rw[if_neg e];dsimp only;by_cases e2:j∈S.take t;·rw[if_pos e2,if_pos ((hm j).2 (.inl e2))]
   ·rw[if_neg e2,if_neg (fun h=>by rcases(hm j).1 h with h|h;exact e2 h;exact e h)]
theorem best_one f :Best 1 f 0:=⟨by omega,fun j hj=>by rw[show j=0 by omega];exact Int.le_refl _,fun j hj=>by omega⟩
theorem best_up{f}{i b}(h:Best i f b)(c:f b<f i):Best (i+1) f i:=
 ⟨by omega,fun j hj=>by
  by_cases e:j=i;·rw[e];exact Int.le_refl _
  ·have:=h.top j (by omega);omega,fun j hj=>by have:=h.top j hj;omega⟩
theorem best_stay{f}{i b}(h:Best i f b)(c:¬f b<f i):Best (i+1) f b:=
 ⟨by have:=h.lt;omega,fun j hj=>by
  by_cases e:j=i;·rw[e];omega
  ·exact h.top j (by omega),h.first⟩
theorem rSplit_some n blk off cap  a b c  room gap  w (h:WRow w blk off n a b c)(hn0:0<n)(hn:n≤200) g (hsp:SplitIs n (fun j=>cl (a j)) (fun j=>hMax (a j) (b j)) (fun j=>cl (c j)) (rm room gap n) g):
 Calls prog 33 #[Iq room,Iq gap,.slice (some ⟨blk,off,none⟩) n cap] w fun e w'=>∃ob,e=.returned (Sq ob n n)∧w.heap.size≤ob∧FRow w' ob 0 n g∧Below w.heap.size w w':=by
 obtain⟨i0,hi,hz0,hz1,hz2⟩:=info_parts infoRWant;have HW:=qH<|h;have C3:=qH<|rHeld_any;have CR:=qH<|fun w=>rRoom_any room gap n hn0 hn w;obtain⟨r,hr⟩:=nmd (rm room gap n);have hr0:=rm_nonneg room gap n;have hr1:=rm_le room gap n hn0;rw[hr]at CR hr0 hr1 hsp;obtain⟨mn,hmn⟩:∃f:Nat->Int,(fun j=>cl (a j))=f:=⟨_,rfl⟩;obtain⟨mx,hmx⟩:∃f:Nat->Int,(fun j=>hMax (a j) (b j))=f:=⟨_,rfl⟩;obtain⟨wt,hwt⟩:∃f:Nat->Int,(fun j=>cl (c j))=f:=⟨_,rfl⟩;have hM:=hb_held a b c;have Hmn:Hid (∀j,cl (a j)=mn j):=fun j=>by rw[<-hmn]
 have Hmx:Hid (∀j,hMax (a j) (b j)=mx j):=fun j=>by rw[<-hmx]
 have Hwt:Hid (∀j,cl (c j)=wt j):=fun j=>by rw[<-hwt]
 rw[hmn,hmx,hwt]at hsp hM;have HM:=qH<|hM;have HSP:=qH<|hsp;go_enter func33,ntmps33;go_wp2;go_loopw[7,8,9] (fun v s i wr=>∃(k:Nat) (x:Int),s=Iq x∧i=Iq k∧k≤n∧0≤x∧x≤(k:Int)*100000∧Hid (x=sumL mn (List.range k))∧wr.ownsRow w.heap.size 120 3 v k (wCells mn mx wt k)∧Below w.heap.size w wr) (fun _ _ i _=>n-(intOf i).toNat);case atStart=>exact⟨0,0,rfl,rfl,Nat.zero_le _,by omega,by omega,rfl,World.ownsRow_nil _ _ _ _,Below.refl _ _⟩
 case round=>
  obtain⟨k,x,rfl,rfl,hk,x0,x1,HX,hown,hbw⟩:=hrel;by_cases hlt:k<n
  ·have hlt':(k:Int)<(n:Int):=by omega
   have hw1:=HW.below hbw;obtain⟨c0,c1,c2⟩:=hw1.2 k hlt;have hm:=HM k;have e1:=Hmn k;have e2:=Hmx k;have e3:=Hwt k;obtain⟨a1,ha1⟩:=nmd (a k);obtain⟨a2,ha2⟩:=nmd (b k);obtain⟨a3,ha3⟩:=nmd (c k);obtain⟨m1,hm1⟩:=nmd (mn k);obtain⟨m2,hm2⟩:=nmd (mx k);obtain⟨m3,hm3⟩:=nmd (wt k);rw[ha1]at c0;rw[ha2]at c1;rw[ha3]at c2;rw[ha1,hm1]at e1;rw[ha1,ha2,hm2]at e2;rw[ha3,hm3]at e3;rw[hm1,hm2,hm3]at hm;obtain⟨d1,d2,d3,d4,d5⟩:=hm;have CH:=qH<|fun w=>by have:=C3 a1 a2 a3 w;rw[e1,e2,e3]at this;exact this
   have HS:Hid (wCells mn mx wt (k+1)=wCells mn mx wt k++[Iq m1,Iq m2,Iq m3]):=by show _=_;rw[wCells,hm1,hm2,hm3]
   have HX2:Hid (x+m1=sumL mn (List.range (k+1))):=by show _=_;rw[List.range_succ,sumL_snoc,<-HX.out,hm1]
   have hzr:=hbw.size;go_wp2_with fail;refine(CH _).mono ?_;rintro e w5 ⟨rfl,b5⟩;have hb6:=hbw.trans (b5.mono hzr);have hown5:=own_belowS hown b5;have hz5:=b5.size;go_wp2_with(at_builtin;refine wpList_append_own _ rfl _ _ 86 rfl w.heap.size 120 i0 (.agg #[Iq 0,Iq 0,Iq 0]) 3 24 underlying86 hi hz0 hz1 hz2 rfl (by decide) _ _ _ rfl ((hown5.alloc _).alloc _) _ 1 1 [Iq m1,Iq m2,Iq m3] rfl rfl ?c1 ?c2 ?c3 ?c4 ?c5 ?_);case c1=>intro j u hj;have:=cell_three_new (w5.alloc (.cells #[Iq m1,Iq m2,Iq m3] 120)) (Iq m1) (Iq m2) (Iq m3) 120 j u hj;rw[World.size_alloc]at this;exact this
   case c2=>intro u hu;simp at hu;rcases hu with rfl|rfl|rfl<;>rfl
   case c3=>unfold maxLen;omega
   case c4=>omega
   case c5=>simp;omega
   intro v' w6 hown' hg _;have hrow:=fun q hq=>hown5.lt q hq;have hb7:=((hb6.alloc (by omega) _).alloc (by simp;omega) _).grown hg (by simp;omega) (fun q hq=>(hrow q hq).1);have cx:w6.cell? ⟨w5.heap.size,0,none⟩=some (Iq m1):=by refine hg.cell ?_ (fun e=>by have:w.heap.size≤w5.heap.size∧w5.heap.size<w5.heap.size:=hrow _ e.symm;omega);rw[World.cell?_alloc_past _ _ _ (by simp),World.cell?_alloc_at _ _ _ _ rfl];rfl
   go_wp2;go_roundw;case rel=>exact⟨k+1,x+m1,rfl,by go_num,by omega,by omega,by omega,HX2,by rw[HS.out];exact hown',hb7⟩
   case measure=>simp[intOf];omega
  ·have hge:¬(k:Int)<(n:Int):=by omega
   obtain rfl:n=k:=by omega
   obtain⟨p,cp,rfl,hval⟩:=wval_own hown;obtain⟨lw,rfl,hlwB,hlw⟩:=hval.resolve_left (by omega);have HLW:=qH<|hlw;have HBW:=qH<|hbw;have hzl:=hlw.1;have hzr:=hbw.size;obtain⟨w3,rfl⟩:=dmn wr;by_cases hsum:r<x
   ·have CS:=qH<|rShrunk_any n lw cp mn mx wt r w3 HLW hn HM ⟨hr0,hr1⟩ (by rw[<-HX.out];exact hsum);have HBk:Hid (Back n mn r g):=by
     rcases HSP.out with⟨_,hb⟩|⟨h1,_⟩;·exact hb
     ·rw[<-HX.out]at h1;omega
    go_wp2_with(first|(go_at_call 59;refine(CR _).mono ?_;rintro e w5 ⟨rfl,hw5⟩;obtain rfl:=hw5.symm)|(go_at_call 60;fail));refine CS.mono ?_;rintro e w2 ⟨rfl,⟨g2,hf,hbk⟩,hb⟩;have HF:=qH<|hf.congr (hbk.uniq HBk);have HB2:=qH<|HBW.trans (hb.mono hzr);go_wp2;go_ret;exact⟨_,rfl,hzr,HF,HB2⟩
   ·have hle:sumL mn (List.range n)≤r:=by rw[<-HX.out];omega
    have HLe:=qH<|hle;have CP:=qH<|fun w h=>rPoured_any n lw 0 cp mn mx wt r w h hn HM ⟨hr0,hr1⟩;have hmk:=run_make_row' (P:=prog) 67 3 (Iq 0) 8 underlying67 info3row rfl .i64 .i64 n (by omega) (by omega);obtain⟨ob,hob⟩:=nmd w3.heap.size;obtain⟨w4,hw4⟩:=nmd (w3.alloc (.cells (madeCells #[Iq 0] n) 3));have hb4:Below w3.heap.size w3 w4:=by rw[<-hw4];exact(Below.refl _ _).alloc (Nat.le_refl _) _
    have hs4:w4.heap.size=ob+1:=by rw[<-hw4,<-hob];simp
    have HR4:Hid (FRow w4 ob 0 n (fun _=>0)):=by
     rw[<-hw4];refine⟨by simp;omega,fun j hj=>⟨?_,?_⟩⟩;·rw[World.cell?_alloc_at _ _ _ _ hob.symm];simp[madeCells,hj,Nat.mod_one]
     ·rw[World.frozen?_alloc_at _ _ _ _ hob.symm]
    have HLW4:=qH<|HLW.below hb4;have HBW4:=qH<|HBW.trans (hb4.mono hzr);have CP4:=qH<|CP w4 HLW4;go_wp2_with(first|(go_at_call 59;refine(CR _).mono ?_;rintro e w5 ⟨rfl,hw5⟩;obtain rfl:=hw5.symm)|(go_at_call 61;fail));refine CP4.mono ?_;rintro e w5 ⟨p,q,rfl,hpq,hb5⟩;have HR5:=qH<|HR4.below hb5;have HLW5:=qH<|HLW4.below hb5;have HBW5:=qH<|HBW4.trans (hb5.mono (by omega));have hs5:=hb5.size;have hobB:w.heap.size≤ob:=by omega
    have hlwb:lw<ob:=by omega
    have hob5:ob<w5.heap.size:=by omega
    clear hb5 hb4 hw4 hob hs4 CP CP4 HR4 HLW4 HBW4 HLW HBW;rcases hpq with⟨rfl,rfl,hbad⟩|⟨hq0,hq1,hp0,hp1,htot⟩
    ·have HG:=qH<|none_of HM HSP HLe hbad;clear hbad;have G0:Hid (GSt w w5 lw ob n 0 mn mx wt g):=⟨HR5.congr fun j _=>by simp,HLW5,HBW5⟩;clear HR5 HLW5 HBW5;go_wp2;go_loopw[15] (fun i wr=>∃k:Nat,i=Iq k∧k≤n∧Hid (GSt w wr lw ob n k mn mx wt g)) (fun i _=>n-(intOf i).toNat);case atStart=>exact⟨0,rfl,Nat.zero_le _,G0⟩
     case round=>
      obtain⟨k,rfl,hk,HGS⟩:=hrel;by_cases hlt:k<n
      ·have hlt':(k:Int)<(n:Int):=by omega
       have hs:=HGS.out;obtain⟨f0,f1,f2⟩:=hs.want.2 k hlt;have hgk:=HG k hlt;obtain⟨m1,hm1⟩:=nmd (mn k);obtain⟨m2,hm2⟩:=nmd (mx k);obtain⟨m3,hm3⟩:=nmd (wt k);rw[hm1,Nat.zero_add]at f0;rw[hm2,Nat.zero_add]at f1;rw[hm3,Nat.zero_add]at f2;rw[hm1,hm2,hm3]at hgk;have hzw:=hs.want.1;have hzo:=hs.len.1;have cl1:wr.cell? ⟨ob,k,none⟩=some (Iq 0):=by have:=(hs.len.2 k hlt).1;dsimp only at this;rw[if_neg (by omega),Nat.zero_add]at this;exact this
       have fl1:wr.frozen? ⟨ob,k,none⟩=false:=by have:=(hs.len.2 k hlt).2;rw[Nat.zero_add]at this;exact this
       by_cases hpos:0<m3
       ·rw[if_pos hpos]at hgk;have HN:=qH<|hs.set2 hlt (by omega) hobB m1 m2 hgk.symm;clear hs hgk hm1 hm2 hm3 HGS;go_wp2;go_roundw;case rel=>exact⟨k+1,by go_num,by omega,HN⟩
        case measure=>simp[intOf];omega
       ·rw[if_neg hpos]at hgk;have HN:=qH<|hs.set hlt (by omega) hobB m1 hgk.symm;clear hs hgk hm1 hm2 hm3 HGS;go_wp2;go_roundw;case rel=>exact⟨k+1,by go_num,by omega,HN⟩
        case measure=>simp[intOf];omega
      ·have hge:¬(k:Int)<(n:Int):=by omega
       obtain rfl:n=k:=by omega
       have HF:=qH<|HGS.len.congr fun j hj=>by rw[if_pos hj]
       have HB:=qH<|HGS.bel;clear HGS;go_wp2;go_ret;exact⟨_,rfl,hobB,HF,HB⟩
    ·obtain⟨S,m,base,rest,hP⟩:=parts_of HM HSP HLe hq0 htot;have HP:=qH<|hP;have HBb:Hid (∀j,j<n->0≤base j∧base j≤100000):=fun j hj=>by have hm:=HM j;have h1:=lev_bd (a:=mn j) (b:=mx j) (c:=wt j) (p:=p) (q:=q) hm.1 (by omega) hm.2.2.1 hm.2.2.2.1 hp0 (by omega) hq1;have h2:=(lev_le1 (mn j) (mx j) (wt j) p q).1;rw[<-hP.base_ j hj];refine⟨Int.ediv_nonneg h1.1 (by omega),?_⟩;have h3:=Int.ediv_le_ediv hq0 h2;rw[Int.mul_ediv_cancel _ (by omega)]at h3;omega
     have HRb:Hid (∀j,j<n->0≤rest j∧rest j<q):=fun j hj=>by rw[<-hP.rest_ j hj];exact⟨Int.emod_nonneg _ (by omega),Int.emod_lt_of_pos _ hq0⟩
     have HLv:Hid (∀j,j<n->∀w,Calls prog 62 #[.agg #[Iq (mn j),Iq (mx j),Iq (wt j)],Iq p,Iq q] w fun e w'=>e=.returned (Iq (levI (mn j) (mx j) (wt j) p q))∧Below w.heap.size w w'):=fun j hj w=>by have hm:=HM j;exact rLevel_any (mn j) (mx j) (wt j) p q w ⟨hm.1,by omega⟩ ⟨by omega,hm.2.2.1⟩ ⟨hm.2.2.2.1,hm.2.2.2.2⟩ ⟨hp0,by omega⟩ ⟨by omega,hq1⟩
     clear hP htot;have hq':(q==0)=false:=by simp;omega
     have hqne:¬q=0:=by omega
     obtain⟨rb,hrb⟩:=nmd w5.heap.size;obtain⟨w6,hw6⟩:=nmd (w5.alloc (.cells (madeCells #[Iq 0] n) 3));have hobr:ob<rb:=by omega
     have H0:Hid (HSt w w6 lw ob rb n 0 mn mx wt base rest):=by
      have hb6:Below w5.heap.size w5 w6:=by rw[<-hw6];exact(Below.refl _ _).alloc (Nat.le_refl _) _
      refine⟨(HR5.below hb6).congr fun j _=>by simp,⟨by rw[<-hw6];simp;omega,fun j hj=>⟨?_,?_⟩⟩,HLW5.below hb6,HBW5.trans (hb6.mono HBW5.size)⟩;·rw[<-hw6,World.cell?_alloc_at _ _ _ _ hrb.symm];simp[madeCells,hj,Nat.mod_one]
      ·rw[<-hw6,World.frozen?_alloc_at _ _ _ _ hrb.symm]
     clear HR5 HLW5 HBW5;go_wp2;go_loopw[17,18] (fun l i wr=>∃(k:Nat) (x:Int),l=Iq x∧i=Iq k∧k≤n∧-20000000≤x∧x≤100000∧Hid (x=r-sumL base (List.range k))∧Hid (HSt w wr lw ob rb n k mn mx wt base rest)) (fun _ i _=>n-(intOf i).toNat);case atStart=>exact⟨0,r,rfl,rfl,Nat.zero_le _,by omega,by omega,by simp[Hid,sumL],H0⟩
     case round=>
      obtain⟨k,x,rfl,rfl,hk,xl,xu,HX,HHS⟩:=hrel;by_cases hlt:k<n
      ·have hlt':(k:Int)<(n:Int):=by omega
       have hs:=HHS.out;obtain⟨f0,f1,f2⟩:=hs.want.2 k hlt;have CL:=HLv k hlt wr;have hbb:=HBb k hlt;have hrr:=HRb k hlt;have eb:=HP.base_ k hlt;have er:=HP.rest_ k hlt;have hm:=HM k;have hlb:=lev_bd (a:=mn k) (b:=mx k) (c:=wt k) (p:=p) (q:=q) hm.1 (by omega) hm.2.2.1 hm.2.2.2.1 hp0 (by omega) hq1;obtain⟨m1,hm1⟩:=nmd (mn k);obtain⟨m2,hm2⟩:=nmd (mx k);obtain⟨m3,hm3⟩:=nmd (wt k);obtain⟨bs,hbs⟩:=nmd (base k);obtain⟨rs,hrs⟩:=nmd (rest k);rw[hm1,Nat.zero_add]at f0;rw[hm2,Nat.zero_add]at f1;rw[hm3,Nat.zero_add]at f2;rw[hm1,hm2,hm3]at CL eb er hlb;obtain⟨lv,hlv⟩:=nmd (levI m1 m2 m3 p q);rw[hlv]at CL eb er hlb;rw[hbs]at hbb eb;rw[hrs]at hrr er;have HCL:Hid _:=CL;have htd:lv.tdiv q=bs:=by rw[Int.tdiv_eq_ediv_of_nonneg hlb.1,eb]
       have htm:lv.tmod q=rs:=by rw[Int.tmod_eq_emod_of_nonneg hlb.1,er]
       obtain⟨l1,l2⟩:=hlb;obtain⟨b1,b2⟩:=hbb;obtain⟨r1,r2⟩:=hrr;have HX2:Hid (x-bs=r-sumL base (List.range (k+1))):=by show _=_;rw[List.range_succ,sumL_snoc,HX.out,hbs];omega
       have hxl2:-20000000≤x-bs:=by rw[HX2.out];have:sumL base (List.range (k+1))≤((List.range (k+1)).length:Int)*100000:=sumL_bound fun j hj=>(HBb j (by have:=List.mem_range.1 hj;omega)).2;rw[List.length_range]at this;omega
       have HN:Hid (∀W',Below wr.heap.size wr W'->HSt w ((W'.setCell ⟨ob,k,none⟩ (Iq bs)).setCell ⟨rb,k,none⟩ (Iq rs)) lw ob rb n (k+1) mn mx wt base rest):=fun W' hb=>(hs.below hb).set hlt hlwb hobr hobB bs rs hbs.symm hrs.symm;have hzo:=hs.len.1;have hzr2:=hs.res.1;have co1:wr.cell? ⟨ob,k,none⟩=some (Iq 0):=by have:=(hs.len.2 k hlt).1;dsimp only at this;rw[if_neg (by omega),Nat.zero_add]at this;exact this
       have fo1:wr.frozen? ⟨ob,k,none⟩=false:=by have:=(hs.len.2 k hlt).2;rw[Nat.zero_add]at this;exact this
       have cr1:wr.cell? ⟨rb,k,none⟩=some (Iq 0):=by have:=(hs.res.2 k hlt).1;dsimp only at this;rw[if_neg (by omega),Nat.zero_add]at this;exact this
       have fr1:wr.frozen? ⟨rb,k,none⟩=false:=by have:=(hs.res.2 k hlt).2;rw[Nat.zero_add]at this;exact this
       have hzw:=hs.want.1;clear hs CL hm hm1 hm2 hm3 hbs hrs hlv HX HHS;go_wp2_with fail;refine Calls.mono HCL ?_;rintro e w7 ⟨rfl,b7⟩;have co2:=(b7.cell (p:=⟨ob,k,none⟩) hzo).trans co1;have fo2:=(b7.frozen (p:=⟨ob,k,none⟩) hzo).trans fo1;have cr2:=(b7.cell (p:=⟨rb,k,none⟩) hzr2).trans cr1;have fr2:=(b7.frozen (p:=⟨rb,k,none⟩) hzr2).trans fr1;have HN7:=HN w7 b7;have HN8:Hid _:=HN7;clear b7 HN HN7 HCL co1 fo1 cr1 fr1;go_wp2;go_roundw;case rel=>exact⟨k+1,x-bs,rfl,by go_num,by omega,by omega,by omega,HX2,HN8⟩
       case measure=>simp[intOf];omega
      ·have hge:¬(k:Int)<(n:Int):=by omega
       obtain rfl:n=k:=by omega
       have hxm:x=(m:Int):=by rw[HX.out];exact HP.left
       have K0:Hid (KSt w wr ob rb n base rest S 0):=⟨HHS.len.congr fun j hj=>by simp[hj],HHS.res.congr fun j hj=>by simp[hj],HHS.bel⟩;clear HX HHS;subst hxm;go_wp2;go_loopw[17] (fun l wr=>∃t:Nat,l=Iq ((m:Int)-t)∧t≤m∧Hid (KSt w wr ob rb n base rest S t)) (fun l _=>(intOf l).toNat);case atStart=>exact⟨0,by simp,Nat.zero_le _,K0⟩
       case round=>
        obtain⟨t,rfl,ht,HK⟩:=hrel;by_cases hlt:t<m
        ·have hpos:(0:Int)<(m:Int)-t:=by omega
         have htS:=Nat.lt_of_lt_of_le hlt HP.le;obtain⟨i,hi⟩:=nmd (S[t]?.getD 0);have hin:=HP.lt i (by rw[<-hi];exact atN_mem htS);have hbest:=HP.best t hlt;rw[hi]at hbest;obtain⟨f,hf⟩:∃f:Nat->Int,(fun j=>if j∈S.take t then-1 else rest j)=f:=⟨_,rfl⟩;rw[hf]at hbest;have HBest:=qH<|hbest;have hres:FRow wr rb 0 n f:=by have:=HK.res;rw[hf]at this;exact this
         have HRes:=qH<|hres;have hzrb:=hres.1;have HKn:Hid (∀W',Below wr.heap.size wr W'->KSt w ((W'.setCell ⟨ob,i,none⟩ (Iq (base i+1))).setCell ⟨rb,i,none⟩ (Iq (-1))) ob rb n base rest S (t+1)):=fun W' hb=>(HK.below hb).next HP.nodup htS i hi hin hobr hobB;have hnot:i∉S.take t:=by rw[<-hi];exact atN_notin HP.nodup htS
         have hco:=HK.len.2 i hin;dsimp only at hco;rw[if_neg hnot,Nat.zero_add,Int.add_zero]at hco;have hzo:=HK.len.1;have hbb:=HBb i hin;obtain⟨bs,hbs⟩:=nmd (base i);rw[hbs]at hco hbb HKn;obtain⟨co1,fo1⟩:=hco;obtain⟨b1,b2⟩:=hbb;have hin':(i:Int)<(n:Int):=by omega
         have hpos2:¬(m:Int)≤t:=by omega
         clear hbest hf hres hnot hbs HK;obtain⟨w8,rfl⟩:=dmn wr;go_wp2;go_loopw[20,21] (fun b j wq=>∃bb ii:Nat,b=Iq bb∧j=Iq ii∧1≤ii∧ii≤n∧bb<n∧Hid (Best ii f bb)∧Below w8.heap.size w8 wq) (fun _ j _=>n-(intOf j).toNat);case atStart=>exact⟨0,1,rfl,rfl,by omega,by omega,by omega,best_one f,Below.refl _ _⟩
         case round=>
          obtain⟨bb,ii,rfl,rfl,hi1,hi2,hbn,HBt,hbq⟩:=hrel;by_cases hlt2:ii<n
          ·have hl1:(ii:Int)<(n:Int):=by omega
           have hl2:(bb:Int)<(n:Int):=by omega
           have hrq:=HRes.below hbq;have cA:=(hrq.2 ii hlt2).1;have cB:=(hrq.2 bb hbn).1;rw[Nat.zero_add]at cA cB;obtain⟨fa,hfa⟩:=nmd (f ii);obtain⟨fb,hfb⟩:=nmd (f bb);rw[hfa]at cA;rw[hfb]at cB;have hzq:=hrq.1;by_cases hgt:fb<fa
           ·have HB2:=qH<|best_up HBt (by rw[hfa,hfb];exact hgt);clear hrq hfa hfb HBt;go_wp2_with fail;go_quiet(fail);go_wp2;go_roundw;case rel=>exact⟨ii,ii+1,rfl,by go_num,by omega,by omega,by omega,HB2,below_drewN hbq _⟩
            case measure=>simp[intOf];omega
           ·have HB2:=qH<|best_stay HBt (by rw[hfa,hfb];exact hgt);clear hrq hfa hfb HBt;go_wp2_with fail;go_quiet(fail);go_wp2;go_roundw;case rel=>exact⟨bb,ii+1,rfl,by go_num,by omega,by omega,by omega,HB2,below_drewN hbq _⟩
            case measure=>simp[intOf];omega
          ·have hl1:¬(ii:Int)<(n:Int):=by omega
           have hii:ii=n:=by omega
           have hbi:bb=i:=by have h1:=HBt.out;rw[hii]at h1;exact h1.uniq HBest
           subst hbi;have co2:=(hbq.cell (p:=⟨ob,bb,none⟩) hzo).trans co1;have fo2:=(hbq.frozen (p:=⟨ob,bb,none⟩) hzo).trans fo1;have hrq:=HRes.below hbq;have hcr:=hrq.2 bb hin;rw[Nat.zero_add]at hcr;obtain⟨fa,hfa⟩:=nmd (f bb);rw[hfa]at hcr;obtain⟨cr2,fr2⟩:=hcr;have HN:Hid _:=HKn wr hbq;clear hrq hfa HBt hii co1 fo1 hbq HKn;go_wp2;go_roundw;case rel=>exact⟨t+1,by go_num,by omega,HN⟩
           case measure=>simp[intOf];omega
        ·obtain rfl:m=t:=by omega
         have hz0:¬(0:Int)<(m:Int)-m:=by omega
         have HF:=qH<|HK.len.congr fun j hj=>(HP.is j hj).symm;have HB:=qH<|HK.bel;clear HK;go_wp2;go_ret;exact⟨_,rfl,hobB,HF,HB⟩
theorem rOpen_nil p q  w :
 Calls prog 93 #[.slice none 0 0,Iq p,Iq q] w fun e w'=>e=.returned (.tuple #[Iq 0,Iq 0])∧w'=w:=by
 go_enter func93,ntmps93;go_wp2;go_loop[8,9,10] (fun s t i=>s=Iq 0∧t=Iq 0∧i=Iq 0) (fun _ _ _=>0);case atStart=>exact⟨rfl,rfl,rfl⟩
 case round=>obtain⟨rfl,rfl,rfl⟩:=hrel;go_wp2;go_ret2;exact⟨rfl,rfl⟩
theorem rPoured_nil r  w :
 Calls prog 61 #[.slice none 0 0,Iq r] w fun e w'=>e=.returned (.tuple #[Iq 0,Iq 0])∧w'=w:=by
 have CO:=qH<|rOpen_nil 0 1;go_enter func61,ntmps61;go_wp2;go_loop[6] (fun i=>i=Iq (-1)∨i=Iq 0) (fun i=>(0-intOf i).toNat);case atStart=>exact .inl rfl
 case round=>
  rcases hrel with rfl|rfl
  ·go_wp2_with(go_at_call 93;refine(CO _).mono ?_;rintro e w5 ⟨rfl,hw5⟩;obtain rfl:=hw5.symm);go_round;case rel=>exact .inr rfl
   case measure=>simp[intOf]
  ·go_wp2;go_ret2;exact⟨rfl,rfl⟩
theorem rSplit_zero p  cap  room gap  w :
 Calls prog 33 #[Iq room,Iq gap,.slice p 0 cap] w fun e w'=>∃q,e=.returned (.slice q 0 0)∧Below w.heap.size w w':=by
 have CR:Hid (∀w,Calls prog 59 #[Iq room,Iq gap,Iq 0] w fun e w'=>e=.returned (Iq (cl room))∧w'=w):=fun w=>rRoom_one room gap 0 (by omega) w;obtain⟨cr,hcr⟩:=nmd (cl room);have b:=cl_bd room;rw[hcr]at CR b;have b1:=b.1;have b2:¬cr<0:=by omega
 clear hcr b;have CP:=qH<|rPoured_nil cr;have hmk:∀u:World,(Instr.makeSlice 67 (Iq 0) (Iq 0)).run prog u=.ok (Sq u.heap.size 0 0) (u.alloc (.cells (madeCells #[Iq 0] 0) 3)):=fun u=>run_make_row' (P:=prog) 67 3 (Iq 0) 8 underlying67 info3row rfl .i64 .i64 0 (by omega) (by omega) u;go_enter func33,ntmps33;go_wp2;go_loop[7,8,9] (fun v s i=>v=.slice none 0 0∧s=Iq 0∧i=Iq 0) (fun _ _ _=>0);case atStart=>exact⟨rfl,rfl,rfl⟩
 case round=>
  obtain⟨rfl,rfl,rfl⟩:=hrel;go_wp2_with(first|(go_at_call 59;refine(CR _).mono ?_;rintro e w5 ⟨rfl,hw5⟩;obtain rfl:=hw5.symm)|(go_at_call 61;refine(CP _).mono ?_;rintro e w5 ⟨rfl,hw5⟩;obtain rfl:=hw5.symm));go_loop[15] (fun i=>i=Iq 0) (fun _=>0);case atStart=>exact rfl
  case round=>obtain rfl:=hrel;go_wp2;go_ret;exact⟨⟨_,rfl⟩,(Below.refl _ _).alloc (Nat.le_refl _) _⟩
structure OSt(w wr:World)(lb ob n k:Nat)(g:Nat->Int)(cg:Int):Prop where
 len:FRow wr lb 0 n g
 out:FRow wr ob 0 n (fun j=>if j<k then offs g cg j else 0)
 bel:Below w.heap.size w wr
theorem OSt.below{w W W'}{lb ob n k}{g}{cg}(h:OSt w W lb ob n k g cg)(hb:Below W.heap.size W W'):OSt w W' lb ob n k g cg:=⟨h.len.below hb,h.out.below hb,h.bel.trans (hb.mono h.bel.size)⟩
theorem OSt.set{w wr}{lb ob n k}{g}{cg}(h:OSt w wr lb ob n k g cg)(hk:k<n)(hne:lb<ob)(hB:w.heap.size≤ob):OSt w (wr.setCell ⟨ob,k,none⟩ (Iq (offs g cg k))) lb ob n (k+1) g cg:=by have h1:=h.out.set k (offs g cg k) hk;rw[Nat.zero_add]at h1;exact⟨h.len.other _ _ _ (by omega),h1.congr fun j _=>upd_lt (g:=fun j=>offs g cg j) _ rfl j,h.bel.setCell hB _⟩
theorem rOff_zero v  room gap  w (p:Option Addr)(C:Calls prog 33 #[Iq room,Iq gap,v] w fun e w'=>∃q,e=.returned (.slice q 0 0)∧Below w.heap.size w w'):
 Calls prog 103 #[Iq room,Iq gap,v] w fun e w'=>∃q,e=.returned (.slice q 0 0)∧Below w.heap.size w w':=by
 have HC:Hid (Calls prog 33 #[Iq room,Iq gap,v] w fun e w'=>∃q,e=.returned (.slice q 0 0)∧Below w.heap.size w w'):=C;have hmk:∀u:World,(Instr.makeSlice 67 (Iq 0) (Iq 0)).run prog u=.ok (Sq u.heap.size 0 0) (u.alloc (.cells (madeCells #[Iq 0] 0) 3)):=fun u=>run_make_row' (P:=prog) 67 3 (Iq 0) 8 underlying67 info3row rfl .i64 .i64 0 (by omega) (by omega) u;clear C;go_enter func103,ntmps103;go_wp2_with fail;refine HC.out.mono ?_;rintro e w1 ⟨q,rfl,b1⟩;have HB:Hid (Below w.heap.size w (w1.alloc (.cells (madeCells #[Iq 0] 0) 3))):=b1.alloc b1.size _;clear b1;go_wp2;go_loop[9,10] (fun s i=>s=Iq 0∧i=Iq 0) (fun _ _=>0);case atStart=>exact⟨rfl,rfl⟩
 case round=>obtain⟨rfl,rfl⟩:=hrel;go_wp2;go_ret;exact⟨⟨_,rfl⟩,HB.out⟩
theorem rOff_some n blk off cap  a b c  room gap  w (h:WRow w blk off n a b c)(hn0:0<n)(hn:n≤200) g (hsp:SplitIs n (fun j=>cl (a j)) (fun j=>hMax (a j) (b j)) (fun j=>cl (c j)) (rm room gap n) g):
 Calls prog 103 #[Iq room,Iq gap,.slice (some ⟨blk,off,none⟩) n cap] w fun e w'=>∃ob,e=.returned (Sq ob n n)∧w.heap.size≤ob∧FRow w' ob 0 n (offs g (cl gap))∧Below w.heap.size w w':=by
 have CS:Hid (Calls prog 33 #[Iq room,Iq gap,.slice (some ⟨blk,off,none⟩) n cap] w fun e w'=>∃ob,e=.returned (Sq ob n n)∧w.heap.size≤ob∧FRow w' ob 0 n g∧Below w.heap.size w w'):=rSplit_some n blk off cap a b c room gap w h hn0 hn g hsp;have CC:Hid (∀w,Calls prog 30 #[Iq gap] w fun e w'=>e=.returned (Iq (cl gap))∧w'=w):=fun w=>rCl_any gap w;have hgb:∀j,j<n->0≤g j∧g j≤100000:=fun j hj=>by have h1:=(hsp.tiles (held_bds a b c)).1 j hj;have h2:=held_bds a b c j;omega
 have hcg:=cl_bd gap;obtain⟨cg,hcge⟩:=nmd (cl gap);rw[hcge]at CC hcg⊢;have cg0:=hcg.1;have cg1:=hcg.2;have HGB:Hid (∀j,j<n->0≤g j∧g j≤100000):=hgb;have HOB:Hid (∀k,k≤n->0≤offs g cg k∧offs g cg k≤(k:Int)*200000):=fun k hk=>offs_bd hgb ⟨cg0,cg1⟩ k hk;have hmk:=run_make_row' (P:=prog) 67 3 (Iq 0) 8 underlying67 info3row rfl .i64 .i64 n (by omega) (by omega);clear h hsp hgb hcge hcg;go_enter func103,ntmps103;go_wp2_with fail;refine CS.out.mono ?_;rintro e w1 ⟨lb,rfl,hlb,hrow,hb1⟩;have hzl:=hrow.1;have hz1:=hb1.size;obtain⟨ob,hob⟩:=nmd w1.heap.size;obtain⟨w2,hw2⟩:=nmd (w1.alloc (.cells (madeCells #[Iq 0] n) 3));have O0:Hid (OSt w w2 lb ob n 0 g cg):=by
  have b2:Below w1.heap.size w1 w2:=by rw[<-hw2];exact(Below.refl _ _).alloc (Nat.le_refl _) _
  refine⟨hrow.below b2,⟨by rw[<-hw2];simp;omega,fun j hj=>⟨?_,?_⟩⟩,hb1.trans (b2.mono hz1)⟩;·rw[<-hw2,World.cell?_alloc_at _ _ _ _ hob.symm];simp[madeCells,hj,Nat.mod_one]
  ·rw[<-hw2,World.frozen?_alloc_at _ _ _ _ hob.symm]
 have hlo:lb<ob:=by omega
 have hBo:w.heap.size≤ob:=by omega
 clear hrow hb1 CS;go_wp2;go_loopw[9,10] (fun s i wr=>∃k:Nat,s=Iq (offs g cg k)∧i=Iq k∧k≤n∧Hid (OSt w wr lb ob n k g cg)) (fun _ i _=>n-(intOf i).toNat);case atStart=>exact⟨0,rfl,rfl,Nat.zero_le _,O0.out⟩
 case round=>
  obtain⟨k,rfl,rfl,hk,HO⟩:=hrel;by_cases hlt:k<n
  ·have hlt':(k:Int)<(n:Int):=by omega
   have hs:=HO.out;have hc:=(hs.len.2 k hlt).1;have hd:=hs.out.2 k hlt;dsimp only at hd;rw[if_neg (by omega),Nat.zero_add]at hd;rw[Nat.zero_add]at hc;have hgk:=HGB.out k hlt;have ho1:=HOB.out k hk;have hnx:=offs_next g cg k;have HN:Hid (OSt w (wr.setCell ⟨ob,k,none⟩ (Iq (offs g cg k))) lb ob n (k+1) g cg):=hs.set hlt hlo hBo;obtain⟨gk,hgke⟩:=nmd (g k);rw[hgke]at hc hgk hnx;obtain⟨o1,ho1e⟩:=nmd (offs g cg k);rw[ho1e]at ho1 hnx HN⊢;have HNX:Hid (offs g cg (k+1)=o1+gk+cg):=by show _=_;rw[hnx];omega
   obtain⟨d1,d2⟩:=hd;obtain⟨gk0,gk1⟩:=hgk;obtain⟨o10,o11⟩:=ho1;have hzb:=hs.len.1;have hzo:=hs.out.1;have wv1:IntKind.i64.wrap (o1+gk)=o1+gk:=IntWalk.i64_in _ ⟨by omega,by omega⟩;have wv2:IntKind.i64.wrap (o1+gk+cg)=o1+gk+cg:=IntWalk.i64_in _ ⟨by omega,by omega⟩;clear hs hgke ho1e hnx HO;go_wp2_with fail;go_quiet(first|(go_at_call 30;exact Calls.quiet_of_same (CC.out _)));go_wp2;go_roundw;case rel=>exact⟨k+1,by rw[HNX.out],by go_num,by omega,HN.out.below (below_drewN (Below.refl _ _) _)⟩
   case measure=>simp[intOf];omega
  ·have hge:¬(k:Int)<(n:Int):=by omega
   obtain rfl:n=k:=by omega
   have HF:Hid (FRow wr ob 0 n (offs g cg)):=HO.out.out.congr fun j hj=>by rw[if_pos hj]
   have HB:Hid (Below w.heap.size w wr):=HO.out.bel;clear HO;go_wp2;go_ret;exact⟨_,rfl,hBo,HF.out,HB.out⟩
