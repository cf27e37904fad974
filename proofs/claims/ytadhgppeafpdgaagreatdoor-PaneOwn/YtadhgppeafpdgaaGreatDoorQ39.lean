import Derived.Shelf.SortM.Plain
import Derived.Shelf.SortM.SortNone
import Derived.Test.YtadhgppeafpdgaaGreatDoorQ09
set_option linter.all false
set_option maxRecDepth 100000
set_option maxHeartbeats 16000000
namespace Go.Proofs.YtadhgppeafpdgaaGreatDoor
end Go.Proofs.YtadhgppeafpdgaaGreatDoor
namespace Go.Proofs
open Go.Shelf
shelf_lay_g SlLaysM.n5 Slgm 5 at Tryz 76 as Tryz.sortLaid
end Go.Proofs
namespace Go.Proofs.YtadhgppeafpdgaaGreatDoor
section
open Go.RowKit Go.Sort Go.Proofs.Tryz
theorem grownBy_sorted{w:World}{g n off}{os}  d  :w.grownBy (grow (putRow (Value.int .i64) (Sort.ahead w n) g off d) os) (some g):=by refine⟨rfl,rfl,rfl,by simp,fun k hk bj=>?_⟩;rw[heap_grow_old _ _ (by simpa using hk)];have:g≠k:=fun e=>bj (by rw[e]);simp[putRow,mapBlock,Sort.ahead,Array.getElem?_modify,this]
theorem vr  zs   blk off cap n   w  (h:aN w blk off zs) (hn:zs.length=n) (aO:n<=1099511627776):
 Cw 76 #[.slice (some (aq blk off)) n cap] w fun e w'=>e=Rw (.tuple #[])/\aN w' blk off (zs.mergeSort fun x y=>decide (x<=y))/\w.grownBy w' (some blk):=by
 subst hn;have hH:Holds (Value.int .i64) w blk off zs.toArray:=fun j hj=>by
  have Ht:j<zs.length:=by simpa using hj
  refine⟨?_,(h.2 j Ht).2⟩;rw[(h.2 j Ht).1];grind
 refine(AnyM.slices_Sort_int Tryz.sortLaid blk off cap zs w hH h.1 (by omega)).mono ?_;rintro e w' ⟨he,q,os,rfl⟩;refine⟨he,?_,grownBy_sorted _⟩;obtain⟨ms,qk⟩:=af (zs.mergeSort fun x y=>decide (x<=y));have OK:ms.length=zs.length:=by rw[<-qk];exact(Rp _ _).length_eq
 rw[qk];have h1:Holds (Value.int .i64) (putRow (Value.int .i64) (Sort.ahead w q) blk off ms.toArray) blk off ms.toArray:=holds_putRow _ _ _ _ zs.toArray _ hH (by omega);have hX:blk<(putRow (Value.int .i64) (Sort.ahead w q) blk off ms.toArray).heap.size:=by simpa using h.1
 have hB:Below (putRow (Value.int .i64) (Sort.ahead w q) blk off ms.toArray).heap.size (putRow (Value.int .i64) (Sort.ahead w q) blk off ms.toArray) (grow (putRow (Value.int .i64) (Sort.ahead w q) blk off ms.toArray) os):=
  ⟨rfl,rfl,rfl,by simp,fun k hk=>heap_grow_old _ _ hk⟩;refine⟨zz007 hX hB.size,fun j hj=>?_⟩;have:=h1 j (by omega);refine⟨(hB.cell (p:=(aq blk (off+j))) hX).trans (this.1.trans ?_),(hB.frozen (p:=(aq blk (off+j))) hX).trans this.2⟩;simp[hj]
def dV(W:World)(blk off n:Nat)(g:Nat->Int):Prop:=blk<W.heap.size/\∀j,j<n->W.cell? (aq blk (off+j))=some (Iq (g j))/\W.frozen? (aq blk (off+j))=false
def Vo(g:Nat->Int)(i:Nat)(y:Int):Nat->Int:=fun k=>if k=i then y else g k
theorem dV.set{W}{blk off n}{g}(h:dV W blk off n g)  i   y  (hi:i<n):dV (W.setCell (aq blk (off+i)) (Iq y)) blk off n (Vo g i y):=by
 refine⟨by simpa using h.1,fun k hk=>?_⟩;simp only[kO];refine⟨?_,(h.2 k hk).2⟩;rw[zZ _ _ _ _ _ ⟨_,(h.2 i hi).1⟩];unfold Vo;by_cases e:k=i;·grind
 ·rw[if_neg e,if_neg (by omega)];exact(h.2 k hk).1
theorem dV.other{W}{blk off n}{g}(h:dV W blk off n g)  b o   v  (hb:b≠blk):dV (W.setCell (aq b o) v) blk off n g:=by refine⟨by simpa using h.1,fun k hk=>?_⟩;simp only[kO];refine⟨?_,(h.2 k hk).2⟩;rw[dy _ _ _ _ (fun e=>hb (by grind)),(h.2 k hk).1]
theorem dV.congr{W}{blk off n}{g g'}(h:dV W blk off n g)(e:∀j,j<n->g j=g' j):dV W blk off n g':=
 ⟨h.1,fun j hj=>by rw[<-e j hj];exact h.2 j hj⟩
theorem dV.below{A B}{blk off n}{g}(h:dV A blk off n g)(hb:Bt A B):dV B blk off n g:=
 ⟨zz007 h.1 hb.size,fun j hj=>⟨(hb.cell (p:=(aq blk (off+j))) h.1).trans (h.2 j hj).1,(hb.frozen (p:=(aq blk (off+j))) h.1).trans (h.2 j hj).2⟩⟩
theorem zm{A B:World}{r b o}(hb:A.grownBy B (some r))(hl:b<A.heap.size)(hn:b≠r):B.frozen? (aq b o)=A.frozen? (aq b o):=by unfold World.frozen?;rw[hb.block b hl (fun e=>hn (by injection e))]
theorem dV.grown{A B}{blk off n r}{g}(h:dV A blk off n g)(hb:A.grownBy B (some r))(hn:blk≠r):dV B blk off n g:=
 ⟨zz007 h.1 hb.size,fun j hj=>⟨hb.cell (h.2 j hj).1 (by simpa using hn),(zm hb h.1 hn).trans (h.2 j hj).2⟩⟩
theorem ib.other{W}{blk off n}{a b c}(h:ib W blk off n a b c)  r o   v  (hb:r≠blk):ib (W.setCell (aq r o) v) blk off n a b c:=by have k:∀p,(W.setCell (aq r o) v).cell? (aq blk p)=W.cell? (aq blk p):=fun p=>dy _ _ _ _ (fun e=>hb (by grind));refine⟨by simpa using h.1,fun j hj=>by rw[k,k,k];exact h.2 j hj⟩
theorem aN.other{W}{blk off}{d}(h:aN W blk off d)  b o   v  (hb:b≠blk):aN (W.setCell (aq b o) v) blk off d:=by refine⟨by simpa using h.1,fun k hk=>?_⟩;simp only[kO];refine⟨?_,(h.2 k hk).2⟩;rw[dy _ _ _ _ (fun e=>hb (by grind)),(h.2 k hk).1]
theorem DF{Q}(hq:Q.Nodup):∃A,((dd Q).mergeSort fun x y=>decide (x<=y))=dd A/\A.Perm Q/\A.Pairwise (·<·):=by
 obtain⟨A,hA,hp⟩:=qD (Rp (dd Q) fun x y=>decide (x<=y));refine⟨A,hA,hp,?_⟩;have hs:(dd A).Pairwise (fun x y=>decide (x<=y)=true):=by rw[<-hA];exact List.pairwise_mergeSort (fun a b c h1 h2=>by grind) (fun a b=>by simp;omega) _
 unfold dd at hs;rw[Q9]at hs;have hn:=hp.nodup_iff.2 hq;refine(hs.and hn).imp fun h=>?_;grind
structure Sk(w wr:World)(n lb lo wb wo ob oo B fb:Nat)(Mn Mx Wt g:Nat->Int)(A:List Nat)(L V:Int)(k:Nat):Prop where
 len:dV wr lb lo n (fun j=>if j∈A.take k then g j+L*Wt j/V else g j)
 frac:dV wr fb 0 n (fun j=>if j∈A.take k then L*Wt j %V else 0)
 open_:aN wr ob oo (dd A)
 want:ib wr wb wo n Mn Mx Wt
 box:wr.cell? (aq (fb+1) 0)=some (Sq fb n n)
 size:fb+1<wr.heap.size
 bel:Below B w wr
theorem s_{A}{k}(hk:k<A.length):(dd A)[k]?.getD 0=((A[k]?.getD 0:Nat):Int):=by simp[dd,hk]
theorem fG(A:List Nat)  k  (hk:k<A.length):A.take (k+1)=A.take k++[A[k]?.getD 0]:=by simp_all
theorem yP{A:List Nat}{k}(hk:k<A.length):A[k]?.getD 0∈A:=by grind
theorem iB{A:List Nat}{k}(hA:A.Nodup)(hk:k<A.length):A[k]?.getD 0∉A.take k:=by have h:=hA.sublist (List.take_sublist (k+1) A);grind[fG]
theorem Sk.next{w wr}{n lb lo wb wo ob oo B fb}{Mn Mx Wt g}{A}{L V}{k}(h:Sk w wr n lb lo wb wo ob oo B fb Mn Mx Wt g A L V k)(hA:A.Nodup)(hk:k<A.length)  i  (hi:A[k]?.getD 0=i) (eU:i<n) (h1:lb≠ob) (h2:lb≠wb) (h3:lb<fb) (h4:ob<fb) (h5:wb<fb) (oi:B<=lb) (sS:B<=fb):
 Sk w ((wr.setCell (aq lb (lo+i)) (Iq (g i+L*Wt i/V))).setCell (aq fb (0+i)) (Iq (L*Wt i %V))) n lb lo wb wo ob oo B fb Mn Mx Wt g A L V (k+1):=by
 have ht:=fG A k hk;have _n:=iB hA hk;rw[hi]at ht _n;have hm:∀j,j∈A.take (k+1)↔j∈A.take k\/j=i:=fun j=>by rw[ht];simp
 refine⟨?_,?_,?_,?_,?_,?_,?_⟩;·refine((h.len.set i (g i+L*Wt i/V) eU).other _ _ _ (by omega)).congr fun j hj=>?_;grind[Vo]
 ·refine((h.frac.other lb (lo+i) (Iq (g i+L*Wt i/V)) (by omega)).set i _ eU).congr fun j hj=>?_;grind[Vo]
 ·exact(h.open_.other _ _ _ h1).other _ _ _ (by omega)
 ·exact(h.want.other _ _ _ h2).other _ _ _ (by omega)
 ·rw[dy _ _ _ _ (fun e=>by grind),dy _ _ _ _ (fun e=>by grind)];exact h.box
 ·simpa using h.size
 ·exact(h.bel.setCell oi _).setCell sS _
theorem Sk.below{w W W'}{n lb lo wb wo ob oo B fb}{Mn Mx Wt g}{A}{L V}{k}(h:Sk w W n lb lo wb wo ob oo B fb Mn Mx Wt g A L V k)(hb:Bt W W')(hB:B<=fb):Sk w W' n lb lo wb wo ob oo B fb Mn Mx Wt g A L V k:=
 ⟨h.len.below hb,h.frac.below hb,h.open_.below hb,h.want.below hb,(hb.cell (p:=(aq (fb+1) 0)) h.size).trans h.box,zz007 h.size hb.size,h.bel.trans (hb.mono (by have:=h.size;omega))⟩
theorem Ly{f}{A}(h:∀j∈A,0<=f j)  k  :ar f (A.take k)<=ar f A:=by
 have e:ar f A=ar f (A.take k)+ar f (A.drop k):=by rw[<-lR,gy]
 have:0<=ar f (A.drop k):=cK fun j hj=>h j (l8 hj);omega
structure Zt(w wr:World)(n lb lo ob oo B:Nat)(h:Nat->Int)(S:List Nat)(k:Nat):Prop where
 len:dV wr lb lo n (fun j=>if j∈S.take k then h j+1 else h j)
 open_:aN wr ob oo (dd S)
 bel:Below B w wr
theorem Zt.next{w wr}{n lb lo ob oo B}{h}{S}{k}(H:Zt w wr n lb lo ob oo B h S k)(hS:S.Nodup)(hk:k<S.length)  i  (hi:S[k]?.getD 0=i) (eU:i<n) (h1:lb≠ob) (oi:B<=lb):
 Zt w (wr.setCell (aq lb (lo+i)) (Iq (h i+1))) n lb lo ob oo B h S (k+1):=by
 have ht:=fG S k hk;have _n:=iB hS hk;rw[hi]at ht _n;have hm:∀j,j∈S.take (k+1)↔j∈S.take k\/j=i:=fun j=>by rw[ht];simp
 refine⟨?_,H.open_.other _ _ _ h1,H.bel.setCell oi _⟩;refine(H.len.set i (h i+1) eU).congr fun j hj=>?_;grind[Vo]
theorem uB:(prog.info? 3).map (fun i=>(i.zero,i.size,i.bytes))=some (some (Iq 0),1,8):=by kernel_rfl
theorem Bl(n lb lo lc wb wo wc ob oo oc B nq:Nat)(Mn Mx Wt g:Nat->Int)(Q:List Nat)(L V:Int)(w:World)(hl:dV w lb lo n g)(hw:ib w wb wo n Mn Mx Wt)(ho:aN w ob oo (dd Q))
 (h1:lb≠ob) (h2:lb≠wb) (h3:wb≠ob) (oi:B<=lb) (sS:B<=ob) (Wg:B<=w.heap.size) (hQ:Q.Nodup) (hQn:∀j∈Q,j<n) (bj:Q≠[]) (hnq:Q.length=nq) (zo1:nq<=1073741824) (hqc:nq<=oc) (hoc:oc<=maxLen)
 (hn:n<=1073741824) (hL:0<=L/\L<=1073741824) (hV:V=ar Wt Q) (On:0<V/\V<=1152921504606846976) (hWt:∀j,0<=Wt j/\Wt j<=1073741824) (hg:∀j,0<=g j/\g j<=1073741824):
 Cw 255 #[.slice (some (aq lb lo)) n lc,.slice (some (aq wb wo)) n wc,.slice (some (aq ob oo)) nq oc,Iq L,Iq V] w fun e w'=>e=Rw (.tuple #[])/\
  ∃(S:List Nat) (m:Nat),S.Perm Q/\S.Pairwise (fun i k=>L*Wt k %V<L*Wt i %V\/(L*Wt i %V=L*Wt k %V/\i<k))/\(m:Int)=L-ar (fun j=>L*Wt j/V) S/\
   dV w' lb lo n (fun j=>if j∈S then g j+L*Wt j/V+(if j∈S.take m then 1 else 0)else g j)/\Below B w w':=by
 have CS:=qH<|
  vr (dd Q) ob oo oc nq w ho (by grind[ez]) (by omega);have HL:=qH<|hl;have HW:=qH<|hw;have HQN:=qH<|hQn;have HQ:Hid Q.Nodup:=hQ;have HV:=qH<|hV;have HWT:=qH<|hWt;have HG:=qH<|hg;have Xs:=qH<|hnq;have vP:=hL.1;have hL2:=hL.2;have hV2:=On.1;have hV3:=On.2;have _E:=hl.1;have hzw:=hw.1;have hzo:=ho.1;have mw:=run_make_row' (P:=prog) 34 3 (Iq 0) 8 underlying34 uB rfl .i64 .i64 n (by omega) (by omega);clear hl hw ho hQn hQ hV hWt hg hnq hL On;go_enter func255,ntmps255;go_wp2_with fail;refine CS.mono ?_;rintro e w1 ⟨rfl,hr1,Ap⟩;obtain⟨A,hA,hAp,hAs⟩:=DF HQ;rw[hA]at hr1;have fy:=Ap.size;have HR1:=qH<|hr1;have Xn:=qH<|HL.grown Ap h1;have Jt:=qH<|HW.grown Ap h3;have HB1:=qH<|(ag B w).grown Ap Wg (fun q hq=>by grind);have HAp:=qH<|hAp;have HAs:=qH<|hAs;go_wp2;obtain⟨fb,Ao⟩:=af w1.heap.size;rw[Ao];have D0:Hid (Sk w ((w1.alloc (.cells (madeCells #[Iq 0] n) 3)).alloc (.cells #[Sq fb n n] 34)) n lb lo wb wo ob oo B fb Mn Mx Wt g A L V 0):=by
  have b1:Bt w1 ((w1.alloc (.cells (madeCells #[Iq 0] n) 3)).alloc (.cells #[Sq fb n n] 34)):=((ag _ w1).alloc (ae _) _).alloc (by simp) _;refine⟨(Xn.below b1).congr fun j _=>by simp,?_,HR1.below b1,Jt.below b1,?_,by simp;omega,HB1.trans (b1.mono (by omega))⟩
  ·refine⟨by simp;omega,fun j hj=>⟨?_,?_⟩⟩;·rw[World.cell?_alloc_past _ _ _ (by simp;omega),World.cell?_alloc_at _ _ _ _ Ao.symm];simp[madeCells,hj,Nat.mod_one]
   ·rw[World.frozen?_alloc_past _ _ _ (by simp;omega),World.frozen?_alloc_at _ _ _ _ Ao.symm]
  ·rw[World.cell?_alloc_at _ _ _ _ (by simp;omega)];rfl
 have hlb:lb<fb:=by omega
 have hwb:wb<fb:=by omega
 have hob:ob<fb:=by omega
 have Mk:=qH<|HAp.length_eq.trans Xs;have mV:Hid A.Nodup:=HAp.nodup_iff.2 HQ;have HVA:=qH<|HV.trans (mL HAp.symm);have hBf:B<=fb:=by omega
 go_loopw[10,25] (fun ms i wr=>∃(k:Nat) (mi:Int),ms=Iq mi/\i=Iq k/\k<=nq/\0<=mi/\mi<=L/\Hid (mi=L-ar (fun j=>L*Wt j/V) (A.take k))/\Hid (Sk w wr n lb lo wb wo ob oo B fb Mn Mx Wt g A L V k)) (fun _ i _=>nq-(intOf i).toNat);case atStart=>exact⟨0,L,rfl,rfl,bm _,by omega,by omega,by simp[Hid,ar],D0⟩
 case round=>
  obtain⟨k,mi,rfl,rfl,hk,rj,hm2,HM,HD⟩:=hrel;by_cases hlt:k<nq
  ·have aR:(k:Int)<(nq:Int):=by omega
   have hd:=HD.out;have E_:k<A.length:=by rw[Mk.out];exact hlt
   obtain⟨i,hi⟩:=af (A[k]?.getD 0);have eU:=HQN i (HAp.mem_iff.1 (by rw[<-hi];exact yP E_));obtain⟨x,hx⟩:=af (Wt i);obtain⟨gi,hgi⟩:=af (g i);have sX:=HWT i;have Ek:=HG i;rw[hx]at sX;rw[hgi]at Ek;have co:wr.cell? (aq ob (oo+k))=some (Iq (i:Int)):=by rw[(hd.open_.2 k (by rw[ez];exact E_)).1,s_ E_,hi]
   have cw:wr.cell? (aq wb (wo+i*3+2))=some (Iq x):=by rw[(hd.want.2 i eU).2.2,hx]
   have wE:i∉A.take k:=by rw[<-hi];exact iB mV E_
   have cl1:wr.cell? (aq lb (lo+i))=some (Iq gi):=by rw[(hd.len.2 i eU).1];dsimp only;rw[if_neg wE,hgi]
   have fl1:=(hd.len.2 i eU).2;have cf1:wr.cell? (aq fb i)=some (Iq 0):=by have:=(hd.frac.2 i eU).1;dsimp only at this;rw[if_neg wE,cB]at this;exact this
   have ff1:wr.frozen? (aq fb i)=false:=by have:=(hd.frac.2 i eU).2;rw[cB]at this;exact this
   have cb:=hd.box;have eV:=hd.size;obtain⟨p,hp⟩:=af (L*x);have oK:0<=p:=by rw[<-hp];exact kh vP sX.1
   have vS:p<=1152921504606846976:=by rw[<-hp];exact ke (nu hL2 sX.2 sX.1 (by omega)) (by decide)
   have uA:=sX.1;have ky:=sX.2;have Ap:=Ek.1;have lz:=Ek.2;obtain⟨q,hq⟩:=af (p/V);obtain⟨r,hr⟩:=af (p %V);have RX:0<=q:=by rw[<-hq];exact I4 oK (by omega)
   have lA:q<=p:=by rw[<-hq];exact Int.ediv_le_self _ oK
   have ux:0<=r:=by rw[<-hr];exact I3 _ (by omega)
   have hr1:r<V:=by rw[<-hr];exact Q4 _ hV2
   have htd:p.tdiv V=q:=by rw[Q_ oK,hq]
   have htm:p.tmod V=r:=by rw[Ef oK,hr]
   have HNx:Hid (Sk w ((wr.setCell (aq lb (lo+i)) (Iq (gi+q))).setCell (aq fb (0+i)) (Iq r)) n lb lo wb wo ob oo B fb Mn Mx Wt g A L V (k+1)):=by have:=HD.next mV E_ i hi eU h1 h2 hlb hob hwb oi hBf;rw[hgi,hx,hp,hq,hr]at this;exact this
   have HMx:Hid (mi-q=L-ar (fun j=>L*Wt j/V) (A.take (k+1))):=by show _=_;rw[fG A k E_,iF,hi];have:=HM.out;rw[hx,hp,hq];omega
   have hmq:0<=mi-q:=by rw[HMx.out];have t1:=Ly (f:=fun j=>L*Wt j/V) (A:=A) (fun j _=>I4 (kh vP (HWT j).1) (by omega)) (k+1);have t2:=(kB (L:=L) HVA hV2).1;omega
   have w1:IntKind.i64.wrap (gi+q)=gi+q:=IntWalk.i64_in _ ⟨by omega,by omega⟩;have w2:IntKind.i64.wrap q=q:=IntWalk.i64_in _ ⟨by omega,by omega⟩;have w3:IntKind.i64.wrap r=r:=IntWalk.i64_in _ ⟨by omega,by omega⟩;have w4:IntKind.i64.wrap p=p:=IntWalk.i64_in _ ⟨by omega,by omega⟩;have znw:V≠0:=by omega
   clear hd sX Ek wE hx hgi hi HM HD;go_wp2_with fail;go_big_region;go_wp2_with fail;go_big_region;go_wp2;go_roundw;case rel=>refine⟨k+1,mi-q,rfl,by go_num,by omega,by omega,by omega,HMx,?_⟩;have:=HNx.out;rw[cB]at this;exact this.below ⟨rfl,rfl,rfl,by simp,fun _ _=>rfl⟩ hBf
   case measure=>simp[intOf];omega
  ·have hge:¬(k:Int)<(nq:Int):=by omega
   obtain rfl:k=nq:=by omega
   have hd:=HD.out;have htk:=im (by rw[Mk.out];omega);obtain⟨fr,Yr⟩:∃fr:Nat->Int,(fun j=>if j∈A.take k then L*Wt j %V else 0)=fr:=⟨_,rfl⟩;obtain⟨hh,RT⟩:∃hh:Nat->Int,(fun j=>if j∈A.take k then g j+L*Wt j/V else g j)=hh:=⟨_,rfl⟩;have aO:=hd.len;have Ox:=hd.frac;rw[RT]at aO;rw[Yr]at Ox;have hF:∀j,j<n->((List.range n).map fr)[j]?.getD 0=fr j:=fun j hj=>by simp[hj]
   have hFl:((List.range n).map fr).length=n:=by simp
   have hsA:=fun j hj=>HQN j (HAp.mem_iff.1 hj);have HS:Hid (Cw 270 #[.slice (some (aq ob oo)) k oc,.func (.func 273) #[] #[Pq (fb+1)]] wr fun e w'=>e=Rw (.tuple #[])/\Sorted wr w' ob oo (xf (fun x=>((List.range n).map fr)[x.toNat]?.getD 0)) [] (dd A) []):=by
    refine lN 273 #[Pq (fb+1)] (enters_of func273 (by kernel_rfl) rfl) (fun i k=>jQ (((List.range n).map fr)[k.toNat]?.getD 0) (((List.range n).map fr)[i.toNat]?.getD 0)) (dd A) (xf (fun x=>((List.range n).map fr)[x.toNat]?.getD 0)) (PV _ _) wr ob oo oc ?_ (dd A) wr k (dl _ _) hd.open_ (fun x hx=>hx) (C6 HAs) (by rw[ez];exact Mk) (by omega);refine JU _ (fb+1) fb 0 n ob wr (by rw[hFl];exact hd.box) (fun j hj=>?_) _ ?_ (by omega) (by omega) (by omega);·rw[hFl]at hj;rw[hF j hj];exact(Ox.2 j hj).1
    ·intro x hx;obtain⟨j,rfl,hj⟩:=oY hx;exact⟨j,rfl,by rw[hFl];exact hsA j hj⟩
   have _3:Hid (∀w2,Sorted wr w2 ob oo (xf (fun x=>((List.range n).map fr)[x.toNat]?.getD 0)) [] (dd A) []->∃S:List Nat,S.Perm A/\S.Pairwise (fun i k=>L*Wt k %V<L*Wt i %V\/(L*Wt i %V=L*Wt k %V/\i<k))/\Zt w w2 n lb lo ob oo B hh S 0/\wr.heap.size<=w2.heap.size):=by
    rintro w2 ⟨⟨M,hp,BW,hr2⟩,fd⟩;obtain⟨S,rfl,hs⟩:=qD hp;refine⟨S,hs,?_,⟨?_,by simpa using hr2,?_⟩,fd.size⟩
    ·unfold dd at BW;rw[Q9]at BW;refine List.Pairwise.imp_of_mem ?_ BW;intro i j hi hj h;have hiA:=hs.mem_iff.1 hi;have hjA:=hs.mem_iff.1 hj;simp only[xf,lW,hF i (hsA i hiA),hF j (hsA j hjA)]at h;rw[<-Yr]at h;dsimp only at h;rw[htk,if_pos hiA,if_pos hjA]at h;rcases h with h|⟨h,h'⟩;·exact .inl h
     ·exact .inr ⟨h,by omega⟩
    ·exact(aO.grown fd h1).congr fun j _=>by simp
    ·exact hd.bel.grown fd (by have:=hd.size;omega) (fun q hq=>by injection hq with hq;omega)
   obtain⟨m,hm⟩:∃m:Nat,mi=(m:Int):=⟨mi.toNat,by omega⟩;subst hm;have hmq:(m:Int)<(k:Int):=by have:=(kB (L:=L) HVA hV2).2;have e:=HM.out;rw[htk]at e;rw[<-e,Mk.out]at this;omega
   have Rv:Hid ((m:Int)=L-ar (fun j=>L*Wt j/V) A):=by have:=HM.out;rw[htk]at this;exact this
   have _5:Hid (∀j,hh j=if j∈A then g j+L*Wt j/V else g j):=fun j=>by rw[<-RT];dsimp only;rw[htk]
   have hhb:Hid (∀j,0<=hh j/\hh j<=2305843009213693952):=fun j=>by rw[_5 j];have a1:=HG j;have a2:=HWT j;have a3:=kh vP a2.1;have a4:L*Wt j<=1152921504606846976:=ke (nu hL2 a2.2 a2.1 (by omega)) (by decide);have a5:0<=L*Wt j/V:=I4 a3 (by omega);have a6:L*Wt j/V<=L*Wt j:=Int.ediv_le_self _ a3;split<;>omega
   have eV:=hd.size;have hmc:(m:Int)<=(oc:Int):=by omega
   clear hd aO Ox RT Yr htk hF hFl HM HD;go_wp2_with fail;refine HS.mono ?_;rintro e w2 ⟨rfl,hS⟩;obtain⟨S,hS1,hS2,hS3,hS4⟩:=_3 w2 hS;have ZH:=qH<|hS1;have HSs:=qH<|hS2;have HE:=qH<|hS3;clear hS hS1 hS2 hS3 _3 HS;go_wp2;go_loopw[64] (fun i wr=>∃c:Nat,i=Iq c/\c<=m/\Hid (Zt w wr n lb lo ob oo B hh S c)) (fun i _=>m-(intOf i).toNat);case atStart=>exact⟨0,rfl,bm _,HE⟩
   case round=>
    obtain⟨c,rfl,hc,_2⟩:=hrel;have RL:=ZH.length_eq.trans Mk;by_cases hlt:c<m
    ·have aR:(c:Int)<(m:Int):=by omega
     have hd:=_2.out;have hcS:c<S.length:=by omega
     obtain⟨i,hi⟩:=af (S[c]?.getD 0);have eU:i<n:=by have:=yP hcS;rw[hi]at this;exact HQN i (HAp.mem_iff.1 (ZH.mem_iff.1 this))
     have zgJ:(i:Int)<(n:Int):=by omega
     have hSn:=ZH.nodup_iff.2 mV;have co:wr.cell? (aq ob (oo+c))=some (Iq (i:Int)):=by rw[(hd.open_.2 c (by rw[ez];exact hcS)).1,s_ hcS,hi]
     obtain⟨y,hy⟩:=af (hh i);have hyb:=hhb i;rw[hy]at hyb;have _D:=hyb.1;have zy:=hyb.2;have wE:i∉S.take c:=by rw[<-hi];exact iB hSn hcS
     have cl1:wr.cell? (aq lb (lo+i))=some (Iq y):=by rw[(hd.len.2 i eU).1];dsimp only;rw[if_neg wE,hy]
     have fl1:=(hd.len.2 i eU).2;have HNx:Hid (Zt w (wr.setCell (aq lb (lo+i)) (Iq (y+1))) n lb lo ob oo B hh S (c+1)):=by have:=hd.next hSn hcS i hi eU h1 oi;rw[hy]at this;exact this
     clear hd hyb wE hi hy hSn RL _2;go_wp2;go_roundw;case rel=>exact⟨c+1,by go_num,by omega,HNx⟩
     case measure=>simp[intOf];omega
    ·have hge:¬(c:Int)<(m:Int):=by omega
     obtain rfl:c=m:=by omega
     have HZ:Hid (∃(S:List Nat) (m:Nat),S.Perm Q/\S.Pairwise (fun i k=>L*Wt k %V<L*Wt i %V\/(L*Wt i %V=L*Wt k %V/\i<k))/\(m:Int)=L-ar (fun j=>L*Wt j/V) S/\
      dV wr lb lo n (fun j=>if j∈S then g j+L*Wt j/V+(if j∈S.take m then 1 else 0)else g j)/\Below B w wr):=by
      refine⟨S,c,ZH.trans HAp,HSs,Rv.trans (by rw[mL ZH.out]),_2.len.congr fun j hj=>?_,_2.bel⟩;have _b:=_5 j;have Fa:j∈S↔j∈A:=ZH.mem_iff;by_cases e:j∈S;·rw[if_pos (Fa.1 e)]at _b;rw[if_pos e,_b];split<;>omega
      ·rw[if_neg (fun h=>e (Fa.2 h))]at _b;rw[if_neg e,if_neg (fun h=>e (nt h)),_b]
     clear RL _2;go_wp2;go_end0;obtain⟨S',m',z1,z2,z3,z4,z5⟩:=HZ.out;exact⟨rfl,S',z1,z2,m',z3,z4,z5⟩
structure Sx(w wr:World)(n lb lo wb wo g B:Nat)(Mn Mx Wt:Nat->Int)(Q:List Nat)(c:Nat):Prop where
 len:dV wr lb lo n (fun j=>if j∈Q.take c then Mx j else Mn j)
 want:ib wr wb wo n Mn Mx Wt
 open_:aN wr g 0 (dd Q)
 bel:Below B w wr
theorem Sx.below{w W W'}{n lb lo wb wo g B}{Mn Mx Wt}{Q}{c}(h:Sx w W n lb lo wb wo g B Mn Mx Wt Q c)(hb:Bt W W')(hB:B<=w.heap.size):Sx w W' n lb lo wb wo g B Mn Mx Wt Q c:=
 ⟨h.len.below hb,h.want.below hb,h.open_.below hb,h.bel.trans (hb.mono (aH hB h.bel.size))⟩
theorem Sx.next{w wr}{n lb lo wb wo g B}{Mn Mx Wt}{Q}{c}(H:Sx w wr n lb lo wb wo g B Mn Mx Wt Q c)(hQ:Q.Nodup)(hk:c<Q.length)  i  (hi:Q[c]?.getD 0=i) (eU:i<n) (h1:lb≠g) (h2:lb≠wb) (oi:B<=lb):
 Sx w (wr.setCell (aq lb (lo+i)) (Iq (Mx i))) n lb lo wb wo g B Mn Mx Wt Q (c+1):=by
 have ht:=fG Q c hk;have _n:=iB hQ hk;rw[hi]at ht _n;have hm:∀j,j∈Q.take (c+1)↔j∈Q.take c\/j=i:=fun j=>by rw[ht];simp
 refine⟨?_,H.want.other _ _ _ h2,H.open_.other _ _ _ h1,H.bel.setCell oi _⟩;refine(H.len.set i (Mx i) eU).congr fun j hj=>?_;grind[Vo]
structure r_(Mn Mx Wt:Nat->Int)(Q:List Nat)(L0:Int)(c:Nat)(L V:Int):Prop where
 left:L=L0-ar (fun j=>Mx j-Mn j) (Q.take c)
 pos:0<=L
 weight:V=ar Wt (Q.drop c)
 full:∀j∈Q.take c,(Mx j-Mn j)*V<=L*Wt j
theorem nL(A:List Nat)  k  (hk:k<A.length):A.drop k=(A[k]?.getD 0)::A.drop (k+1):=by simp_all
theorem DG{R}{Q:List Nat}(h:Q.Pairwise R){c}(hc:c<Q.length):(∀j∈Q.take c,R j (Q[c]?.getD 0))/\(∀k∈Q.drop (c+1),R (Q[c]?.getD 0) k):=by
 have e:Q=Q.take c++((Q[c]?.getD 0)::Q.drop (c+1)):=by rw[<-nL Q c hc,gy]
 have h':(Q.take c++((Q[c]?.getD 0)::Q.drop (c+1))).Pairwise R:=by rw[<-e];exact h
 rw[ka]at h';refine⟨fun j hj=>h'.2.2 j hj _ (by simp),?_⟩;exact(Rq.1 h'.2.1).1
theorem r_.next{Mn Mx Wt}{Q}{L0}{c}{L V}(h:r_ Mn Mx Wt Q L0 c L V)(hm:∀j,0<=Mx j-Mn j)(hs:Q.Pairwise (RFl Mn Mx Wt))(hw:∀j∈Q,0<Wt j)(hc:c<Q.length)  i  (hi:Q[c]?.getD 0=i) (qj:(Mx i-Mn i)*V<=L*Wt i):r_ Mn Mx Wt Q L0 (c+1) (L-(Mx i-Mn i)) (V-Wt i):=by
 have h1:=DG hs hc;rw[hi]at h1;have hd:=nL Q c hc;rw[hi]at hd;have ht:=fG Q c hc;rw[hi]at ht;have YO:=hw i (by grind);have hV:V=ar Wt (i::Q.drop (c+1)):=by rw[<-hd];exact h.weight
 have:=Km (A:=Q.take c) (B:=Q.drop (c+1)) (i:=i) (L:=L) (W:=V) hm (fun j hj=>⟨hw j (nt hj),h1.1 j hj⟩) YO (fun j hj=>hw j (l8 hj)) hV qj;refine⟨?_,this.1,?_,?_⟩;·have e:=h.left;grind[iF]
 all_goals grind[bB]
theorem r_.stop{Mn Mx Wt}{Q}{L0}{c}{L V}(h:r_ Mn Mx Wt Q L0 c L V)(hs:Q.Pairwise (RFl Mn Mx Wt))(hw:∀j∈Q,0<Wt j)(hc:c<Q.length)  i  (hi:Q[c]?.getD 0=i) (Tx:L*Wt i<(Mx i-Mn i)*V):0<V/\∀k∈Q.drop c,L*Wt k<(Mx k-Mn k)*V:=by
 have h1:=DG hs hc;rw[hi]at h1;have hd:=nL Q c hc;rw[hi]at hd;have YO:=hw i (by grind);have hV:V=Wt i+ar Wt (Q.drop (c+1)):=by rw[<-bB,<-hd];exact h.weight
 have h0:0<=ar Wt (Q.drop (c+1)):=cK fun j hj=>Int.le_of_lt (hw j (l8 hj));refine⟨by omega,?_⟩;rw[hd];exact K3 YO (by omega) (fun k hk=>⟨hw k (l8 hk),h1.2 k hk⟩) Tx
theorem r_.poured_all{Mn Mx Wt}{Q}{n}{r L V}(h:r_ Mn Mx Wt Q (r-ar Mn (List.range n)) Q.length L V)(hp:Q.Perm (cO Wt n)):bH n Mn Mx Wt r (fun j=>if j∈Q then Mx j else Mn j) Q [] L V 0:=by
 have e:Q.take Q.length=Q:=l6;refine⟨by rw[ik];exact hp,?_,h.pos,by have:=h.weight;grind,by have:=h.full;rwa[e]at this,by simp,fun h=>(h rfl).elim,fun _=>rfl,List.Pairwise.nil,fun j hj=>?_⟩;·have:=h.left;grind
 grind
theorem r_.poured_some{Mn Mx Wt}{Q}{n c}{r L V}(h:r_ Mn Mx Wt Q (r-ar Mn (List.range n)) c L V)(hp:Q.Perm (cO Wt n))  S  (m:Nat) (hS:S.Perm (Q.drop c)) (ho:∀k∈Q.drop c,L*Wt k<(Mx k-Mn k)*V) (bj:Q.drop c≠[]) (hm:(m:Int)=L-ar (fun j=>L*Wt j/V) S)
 (hs:S.Pairwise (fun i k=>L*Wt k %V<L*Wt i %V\/(L*Wt i %V=L*Wt k %V/\i<k))):
 bH n Mn Mx Wt r (fun j=>if j∈S then(if j∈Q.take c then Mx j else Mn j)+L*Wt j/V+(if j∈S.take m then 1 else 0)else(if j∈Q.take c then Mx j else Mn j)) (Q.take c) S L V m:=by
 have hpp:(Q.take c++S).Perm Q:=by
  conv=>rhs;rw[<-List.take_append_drop c Q]
  exact List.Perm.append_left _ hS
 have gC:=hp.nodup_iff.2 (yh.filter _);have znW:∀j∈Q.take c,j∉S:=fun j h1 h2=>by grind
 refine⟨hpp.trans hp,h.left,h.pos,h.weight.trans (mL hS.symm),h.full,fun j hj=>ho j (hS.mem_iff.1 hj),fun _=>hm,fun e=>(bj (by simp_all)).elim,hs,fun j hj=>?_⟩;grind
def ot(w w':World)(n lb lo B:Nat)(Mn Mx Wt:Nat->Int)(r:Int):Prop:=
 ∃(a:Nat->Int) (A S:List Nat) (L V:Int) (m:Nat),bH n Mn Mx Wt r a A S L V m/\dV w' lb lo n a/\Below B w w'
def U_:Value->Nat
 |.slice _ n _=>n
 |_=>0
theorem Qc(n lb lo lc wb wo wc B:Nat)(Mn Mx Wt:Nat->Int)(r L0:Int)(w:World)(hl:dV w lb lo n Mn)(hw:ib w wb wo n Mn Mx Wt)(h2:lb≠wb)(oi:B<=lb)(Wg:B<=w.heap.size)(hn:n<=1048576)
    (hM:∀j,0<=Mn j/\Mn j<=Mx j/\Mx j<=1048576/\0<=Wt j/\Wt j<=1048576) (hL:L0=r-ar Mn (List.range n)) (Wh:0<=L0/\L0<=1073741824):
    Cw 233 #[.slice (some (aq lb lo)) n lc,.slice (some (aq wb wo)) n wc,Iq L0] w fun e w'=>e=Rw (.tuple #[])/\ot w w' n lb lo B Mn Mx Wt r:=by
  have CO:=qH<|
    K5 n wb wo wc Mn Mx Wt w hw (fun j=>by grind) (by omega);have HL:=qH<|hl;have HW:=qH<|hw;have HM:=qH<|hM;have HLe:=qH<|hL;have _E:=hl.1;have hzw:=hw.1;have vP:=Wh.1;have hL2:=Wh.2;clear hl hw hM hL Wh;go_enter func233,ntmps233;go_wp2_with fail;refine CO.mono ?_;rintro e w1 ⟨v,Q,rfl,hO,hp,hs,hb⟩;have HP:=qH<|hp;have HS:=qH<|hs;have Xn:=qH<|HL.below hb;have Jt:=qH<|HW.below hb;have HB1:=qH<|hb.mono Wg;have HQn:Hid (∀j∈Q,j<n/\0<Wt j):=fun j hj=>qg (hp.mem_iff.1 hj);have HQd:Hid Q.Nodup:=hp.nodup_iff.2 (yh.filter _);rcases hO with⟨hq,rfl⟩|⟨bj,g,cp,rfl,Oy,hqc,Tt,hro⟩
  · have HZ:Hid (ot w w1 n lb lo B Mn Mx Wt r):=by
      refine⟨_,Q,[],L0,0,0,r_.poured_all ⟨?_,vP,?_,?_⟩ HP,Xn.congr fun j _=>by simp[hq],HB1⟩;·rw[hq];simp[ar];exact HLe
      ·rw[hq];rfl
      ·rw[hq];simp
    go_wp2;go_loop[7,16] (fun t i=>t=Iq 0/\i=Iq 0) (fun _ _=>0);case atStart=>grind
    case round=>
      obtain⟨rfl,rfl⟩:=hrel;go_wp2;go_loop[2,6,7] (fun t o v=>t=Iq L0/\o=.slice none 0 0/\v=Iq 0) (fun _ _ _=>0);case atStart=>grind
      case round=>obtain⟨rfl,rfl,rfl⟩:=hrel;go_wp2;go_end0;exact⟨rfl,HZ⟩
  · obtain⟨nq,hnq⟩:=af Q.length;have Xs:=qH<|hnq;have HRo:=qH<|hro;have hqn:nq<=n:=by have:=HP.length_eq;have:=qf Wt n;omega
    rw[hnq]at hqc⊢;have hlg:lb≠g:=by omega
    have hwg:wb≠g:=by omega
    have Tf:B<=g:=by omega
    go_wp2;go_loop[7,16] (fun t i=>∃(k:Nat) (s:Int),t=Iq s/\i=Iq k/\k<=nq/\0<=s/\s<=(k:Int)*1048576/\Hid (s=ar Wt (Q.take k))) (fun _ i=>nq-(intOf i).toNat);case atStart=>exact⟨0,0,rfl,rfl,bm _,by omega,by omega,by simp[Hid,ar]⟩
    case round=>
      obtain⟨k,s,rfl,rfl,hk,_w,hs1,GF⟩:=hrel;by_cases hlt:k<nq
      · have aR:(k:Int)<(nq:Int):=by omega
        have hkQ:k<Q.length:=by rw[Xs.out];exact hlt
        obtain⟨i,hi⟩:=af (Q[k]?.getD 0);have eU:=(HQn i (by grind)).1;obtain⟨x,hx⟩:=af (Wt i);have sX:=HM i;rw[hx]at sX;have uA:=sX.2.2.2.1;have ky:=sX.2.2.2.2;have co:w1.cell? (aq g k)=some (Iq (i:Int)):=by have:=(HRo.2 k (by grind[ez])).1;rw[s_ hkQ,hi,cB]at this;exact this
        have cw:w1.cell? (aq wb (wo+i*3+2))=some (Iq x):=by rw[(Jt.2 i eU).2.2,hx]
        have HSx:Hid (s+x=ar Wt (Q.take (k+1))):=by show _=_;rw[fG Q k hkQ,iF,hi,hx,GF.out]
        have El:((k+1:Nat):Int)*1048576=(k:Int)*1048576+1048576:=by omega
        clear sX hi hx GF;go_wp2;go_round;case rel=>exact⟨k+1,s+x,rfl,by go_num,by omega,by omega,by omega,HSx⟩
        grind[intOf]
      · have hge:¬(k:Int)<(nq:Int):=by omega
        obtain rfl:nq=k:=by omega
        have N0:Hid (r_ Mn Mx Wt Q (r-ar Mn (List.range n)) 0 L0 s):=by refine⟨by simp[ar];exact HLe,vP,?_,by simp⟩;rw[GF.out,im (by omega),List.drop_zero]
        have P0:Hid (Sx w w1 n lb lo wb wo g B Mn Mx Wt Q 0):=⟨Xn.congr fun j _=>by simp,Jt,HRo,HB1⟩;clear GF Xn Jt HRo HB1;go_wp2;have zkt:(nq:Int)*1048576<=1099511627776:=by omega
        go_loopw[2,6,7] (fun l o v wr=>∃(c:Nat) (L V:Int) (p:Option Addr) (d e:Nat),l=Iq L/\o=.slice p d e/\v=Iq V/\c+d=nq/\c+e=cp/\0<=L/\L<=L0/\0<=V/\V<=1099511627776/\Hid (0<d->p=some (aq g c))/\Hid (r_ Mn Mx Wt Q (r-ar Mn (List.range n)) c L V)/\Hid (Sx w wr n lb lo wb wo g B Mn Mx Wt Q c)) (fun _ o _ _=>U_ o);case atStart=>grind
        case round=>
          obtain⟨c,L,V,p,d,e,rfl,rfl,rfl,Wj,Z7,hL3,hL4,hV3,hV4,HPp,HN,ZF⟩:=hrel;by_cases hd:0<d
          · have hd':(0:Int)<(d:Int):=by omega
            obtain rfl:=HPp hd;have En:=ZF.out;have Yi:c<Q.length:=by rw[Xs.out];omega
            obtain⟨i,hi⟩:=af (Q[c]?.getD 0);have hiQ:i∈Q:=by rw[<-hi];exact yP Yi
            have eU:=(HQn i hiQ).1;have zgJ:(i:Int)<(n:Int):=by omega
            obtain⟨x,hx⟩:=af (Wt i);obtain⟨mn,Em⟩:=af (Mn i);obtain⟨mx,sV⟩:=af (Mx i);have sX:=HM i;rw[hx,Em,sV]at sX;obtain⟨hb1,dE,xF,Tp,hb5⟩:=sX;have co:wr.cell? (aq g c)=some (Iq (i:Int)):=by have:=(En.open_.2 c (by rw[ez];exact Yi)).1;rw[s_ Yi,hi,cB]at this;exact this
            have cw0:wr.cell? (aq wb (wo+i*3))=some (Iq mn):=by rw[(En.want.2 i eU).1,Em]
            have cw1:wr.cell? (aq wb (wo+i*3+1))=some (Iq mx):=by rw[(En.want.2 i eU).2.1,sV]
            have cw2:wr.cell? (aq wb (wo+i*3+2))=some (Iq x):=by rw[(En.want.2 i eU).2.2,hx]
            have wE:i∉Q.take c:=by rw[<-hi];exact iB HQd Yi
            have cl1:wr.cell? (aq lb (lo+i))=some (Iq mn):=by rw[(En.len.2 i eU).1];dsimp only;rw[if_neg wE,Em]
            have fl1:=(En.len.2 i eU).2;obtain⟨df,hdf⟩:=af (mx-mn);have zgx:0<=df:=by omega
            have zgy:df<=1048576:=by omega
            obtain⟨pv,_s⟩:=af (df*V);have zoX:0<=pv:=by rw[<-_s];exact kh zgx hV3
            have zoY:pv<=1152921504606846976:=by rw[<-_s];exact ke (nu zgy hV4 hV3 (by omega)) (by decide)
            obtain⟨lx,hlx⟩:=af (L*x);have zos:0<=lx:=by rw[<-hlx];exact kh hL3 Tp
            have zot:lx<=1125899906842624:=by rw[<-hlx];exact ke (nu (show L<=1073741824 by omega) hb5 Tp (by omega)) (by decide)
            have wdf:IntKind.i64.wrap df=df:=IntWalk.i64_in _ ⟨by omega,by omega⟩;by_cases Tx:lx<pv
            · have uy:=HN.stop HS (fun j hj=>(HQn j hj).2) Yi i hi (by rw[hx,sV,Em,hdf,_s,hlx];exact Tx);have hV0:=uy.1;have X9:=En.below (W':=wr.drew) ⟨rfl,rfl,rfl,ae _,fun _ _=>rfl⟩ Wg;have Yo:(Q.drop c).length=d:=by rw[dL,Xs.out];omega
              have CD:Hid (Cw 255 #[.slice (some (aq lb lo)) n lc,.slice (some (aq wb wo)) n wc,.slice (some (aq g c)) d e,Iq L,Iq V] wr.drew fun e w'=>e=Rw (.tuple #[])/\
                  ∃(S:List Nat) (m:Nat),S.Perm (Q.drop c)/\S.Pairwise (fun i k=>L*Wt k %V<L*Wt i %V\/(L*Wt i %V=L*Wt k %V/\i<k))/\(m:Int)=L-ar (fun j=>L*Wt j/V) S/\
                    dV w' lb lo n (fun j=>if j∈S then(if j∈Q.take c then Mx j else Mn j)+L*Wt j/V+(if j∈S.take m then 1 else 0)else(if j∈Q.take c then Mx j else Mn j))/\Below B wr.drew w'):=by
                refine Bl n lb lo lc wb wo wc g c e B d Mn Mx Wt _ (Q.drop c) L V wr.drew X9.len X9.want ?_ hlg h2 hwg oi Tf (aH Wg X9.bel.size) (HQd.sublist (List.drop_sublist _ _)) (fun j hj=>(HQn j (l8 hj)).1) (by intro h;rw[h]at Yo;simp at Yo;omega) Yo (by omega) (by omega) (by omega) (by omega) ⟨hL3,by omega⟩ HN.weight ⟨hV0,by omega⟩ (fun j=>by have:=HM j;omega) (fun j=>by have:=HM j;split<;>omega);refine⟨X9.open_.1,fun j hj=>?_⟩;rw[ez,Yo]at hj;have h1:=X9.open_.2 (c+j) (by rw[ez,Xs.out];omega);rw[cB]at h1;refine⟨h1.1.trans ?_,h1.2⟩;have e1:dd (Q.drop c)=(dd Q).drop c:=by unfold dd;rw[List.map_drop]
                rw[e1,yn]
              have HZ:Hid (∀w2,(∃(S:List Nat) (m:Nat),S.Perm (Q.drop c)/\S.Pairwise (fun i k=>L*Wt k %V<L*Wt i %V\/(L*Wt i %V=L*Wt k %V/\i<k))/\(m:Int)=L-ar (fun j=>L*Wt j/V) S/\
                    dV w2 lb lo n (fun j=>if j∈S then(if j∈Q.take c then Mx j else Mn j)+L*Wt j/V+(if j∈S.take m then 1 else 0)else(if j∈Q.take c then Mx j else Mn j))/\Below B wr.drew w2)->ot w w2 n lb lo B Mn Mx Wt r):=by rintro w2 ⟨S,m,q1,q2,q3,q4,q5⟩;exact⟨_,Q.take c,S,L,V,m,HN.poured_some HP S m q1 uy.2 (by intro h;rw[h]at Yo;simp at Yo;omega) q3 q2,q4,X9.bel.trans q5⟩
              clear uy X9 Yo En wE hi hx Em sV HN ZF;go_wp2_with fail;go_big_region;go_wp2_with fail;refine CD.mono ?_;rintro e2 w2 ⟨rfl,hq⟩;have HF:=qH<|HZ w2 hq;clear hq HZ;go_wp2;go_end0;exact⟨rfl,HF⟩
            · have hNx:=HN.next (fun j=>by have:=HM j;omega) HS (fun j hj=>(HQn j hj).2) Yi i hi (by rw[hx,sV,Em,hdf,_s,hlx];omega);rw[hx,sV,Em,hdf]at hNx;have HNx:=qH<|hNx;have hLd:=hNx.pos;have hVx:0<=V-x:=by rw[hNx.weight];exact cK fun j _=>(HM j).2.2.2.1
              have HPx:Hid (Sx w (wr.setCell (aq lb (lo+i)) (Iq (mn+df))) n lb lo wb wo g B Mn Mx Wt Q (c+1)):=by
                have:=En.next HQd Yi i hi eU hlg h2 oi;rw[sV]at this;have e:mn+df=mx:=by omega
                rw[e];exact this
              have zn6:¬pv>lx:=by omega
              have hde:(1:Int)<=(e:Int):=by omega
              have hdd:(1:Int)<=(d:Int):=by omega
              clear hNx En wE hi hx Em sV HN ZF;go_wp2_with fail;go_big_region;go_wp2_with fail;refine⟨⟨c+1,L-df,V-x,_,d-1,e-1,rfl,rfl,rfl,by omega,by omega,hLd,by omega,hVx,by omega,?_,HNx,?_⟩,?_⟩;·intro h;rw[if_neg (by omega)]
              ·exact HPx.below ⟨rfl,rfl,rfl,ae _,fun _ _=>rfl⟩ Wg
              ·show d-1<d;omega
          · obtain rfl:d=0:=by omega
            have hcl:c=Q.length:=by rw[Xs.out];omega
            have HF:Hid (ot w wr n lb lo B Mn Mx Wt r):=by have h1:=HN.out;have h2:=ZF.len;rw[hcl]at h1 h2;exact⟨_,Q,[],L,V,0,h1.poured_all HP,h2.congr fun j _=>by rw[l6],ZF.bel⟩
            clear hcl HN ZF;go_wp2;go_end0;exact⟨rfl,HF⟩
def rm(aM cR:Int)(n:Nat):Int:=max 0 (cl aM-cl cR*((n:Int)-1))
theorem Le  aM cR   n  :0<=rm aM cR n:=by grind[rm]
theorem WP  aM cR   n  (hn:0<n):rm aM cR n<=100000:=by have h1:=gq aM;have h2:0<=cl cR*((n:Int)-1):=kh (gq cR).1 (by omega);grind[rm]
structure AB(n:Nat)(mn:Nat->Int)(r:Int)(g:Nat->Int):Prop where
 bd:∀j,j<n->0<=g j/\g j<=mn j
 sum:ar g (List.range n)=r
 behind:∀i k,i<k->k<n->g i<mn i->g k=0
def cV(n:Nat)(mn mx wt:Nat->Int)(r:Int)(g:Nat->Int):Prop:=
 (r<ar mn (List.range n)/\AB n mn r g)\/(ar mn (List.range n)<=r/\∃(A S:List Nat) (L V:Int) (m:Nat),bH n mn mx wt r g A S L V m)
theorem Qi  n  (f:Nat->Int)  j  (hj:j<n):((List.range n).map f)[j]?.getD 0=f j:=by simp[hj]
theorem n_  n  (f:Nat->Int):((List.range n).map f).length=n:=by simp
theorem dV.irow{W}{blk off n}{g}(h:dV W blk off n g):aN W blk off ((List.range n).map g):=
 ⟨h.1,fun j hj=>by rw[n_]at hj;rw[Qi n g j hj];exact h.2 j hj⟩
theorem aN.frow{W}{blk off n}{d}(h:aN W blk off d)(hn:d.length=n):dV W blk off n (fun j=>d[j]?.getD 0):=
 ⟨h.1,fun j hj=>h.2 j (by omega)⟩
theorem Lz(d:List Int):ar (fun j=>d[j]?.getD 0) (List.range d.length)=d.sum:=by unfold ar;congr 1;refine List.ext_getElem (by simp) fun j h1 h2=>?_;grind
theorem SK  n   mn  (hm:∀j,0<=mn j)  r qw  (hr:0<=r) (h:qw=ar mn (List.range n)-r) (h0:0<=qw):AB n mn r (fun j=>(gb ((List.range n).map mn) n qw [])[j]?.getD 0)/\(gb ((List.range n).map mn) n qw []).length=n:=by have hl:=n_ n mn;have hs:((List.range n).map mn).sum=ar mn (List.range n):=rfl;have ht:((List.range n).map mn).take n=(List.range n).map mn:=im (by omega);obtain⟨X,e,xl,xb,xs,xk,_⟩:=BG ((List.range n).map mn) (fun i hi=>by grind) n qw [] (by omega) h0 (by grind);rw[ik]at e;rw[e];refine⟨⟨fun j hj=>?_,?_,fun i k Tz hk hlt=>?_⟩,xl⟩;all_goals grind[Qi,Lz]
def sO(w w':World)(lb n:Nat)(mn mx wt:Nat->Int)(r:Int):Prop:=w.heap.size<=lb/\(∃g,dV w' lb 0 n g/\cV n mn mx wt r g)/\Bt w w'
theorem Ge(p:Option Addr)(n cap:Nat)(aM cR:Int)(w:World)(hn:n=0\/200<n)(hn2:n<=5864062014805):
 Cw 199 #[Iq aM,Iq cR,.slice p n cap] w fun e w'=>e=Rw (.slice none 0 0)/\w'=w:=by
 rcases hn with rfl|hn;·go_enter func199,ntmps199;go_wp2;go_ret;simp_all
 ·have h1:(200:Int)<(n:Int):=by omega
  have h2:(n:Int)≠0:=by omega
  go_enter func199,ntmps199;go_wp2;go_ret;simp_all
structure SSt(w wr:World)(cw lb n k:Nat)(mn mx wt:Nat->Int):Prop where
 len:dV wr lb 0 n (fun j=>if j<k then mn j else 0)
 want:ib wr cw 0 n mn mx wt
 bel:Bt w wr
theorem SSt.next{w wr}{cw lb n k}{mn mx wt}(h:SSt w wr cw lb n k mn mx wt)(hk:k<n)(bj:lb≠cw)(hB:w.heap.size<=lb)  o  :SSt w ((wr.setCell (aq lb (0+k)) (Iq (mn k))).alloc o) cw lb n (k+1) mn mx wt:=by
 have hb:Below (wr.setCell (aq lb (0+k)) (Iq (mn k))).heap.size (wr.setCell (aq lb (0+k)) (Iq (mn k))) ((wr.setCell (aq lb (0+k)) (Iq (mn k))).alloc o):=(ag _ _).alloc (ae _) _;refine⟨((h.len.set k (mn k) hk).below hb).congr fun j hj=>?_,(h.want.other _ _ _ bj).below hb,(h.bel.setCell hB _).trans (hb.mono ?_)⟩;·grind[Vo]
 ·have:=h.bel.size;simp_all
theorem Lw(n blk off cap:Nat)(a b c:Nat->Int)(aM cR:Int)(w:World)(h:ib w blk off n a b c)(_l:0<n)(hn:n<=200):
 Cw 199 #[Iq aM,Iq cR,.slice (some (aq blk off)) n cap] w fun e w'=>∃lb,e=Rw (Sq lb n n)/\sO w w' lb n (fun j=>cl (a j)) (fun j=>ic (a j) (b j)) (fun j=>cl (c j)) (rm aM cR n):=by
 have CW:=qH<|clampedWants_any n blk off cap a b c w h (by omega);have CC:=qH<|shClamped_any;obtain⟨mn,Em⟩:∃f:Nat->Int,(fun j=>cl (a j))=f:=⟨_,rfl⟩;obtain⟨mx,sV⟩:∃f:Nat->Int,(fun j=>ic (a j) (b j))=f:=⟨_,rfl⟩;obtain⟨wt,hwt⟩:∃f:Nat->Int,(fun j=>cl (c j))=f:=⟨_,rfl⟩;have HM:Hid (∀j,0<=mn j/\mn j<=mx j/\mx j<=100000/\0<=wt j/\wt j<=100000):=fun j=>by rw[<-Em,<-sV,<-hwt];simp_all[gq,mq]
 rw[Em,sV,hwt]at CW⊢;obtain⟨r,hr⟩:=af (rm aM cR n);have ux:=Le aM cR n;have hr1:=WP aM cR n _l;rw[hr]at ux hr1⊢;unfold rm at hr;obtain⟨cr,Yl⟩:=af (cl aM);obtain⟨cg,LZ⟩:=af (cl cR);have Tv:=gq aM;have Kt:=gq cR;have C1:=qH<|fun w=>by have:=CC aM w;rw[Yl]at this;exact this
 have C2:=qH<|fun w=>by have:=CC cR w;rw[LZ]at this;exact this
 rw[Yl]at hr Tv;rw[LZ]at hr Kt;obtain⟨pr,L_⟩:=af (cg*((n:Int)-1));have zoV:0<=pr:=by rw[<-L_];exact kh Kt.1 (by omega)
 have zoW:pr<=20000000:=by rw[<-L_];exact ke (nu Kt.2 (show(n:Int)-1<=200 by omega) (by omega) (by omega)) (by decide)
 rw[L_]at hr;have hc1:=Tv.1;have E4:=Tv.2;have hc3:=Kt.1;have hc4:=Kt.2;have mw:=run_make_row' (P:=prog) 34 3 (Iq 0) 8 underlying34 uB rfl .i64 .i64 n (by omega) (by omega);have zv:¬(n:Int)=0:=by omega
 have hn2:¬(200:Int)<(n:Int):=by omega
 have hn3:((n:Int)==0)=false:=by simpa using zv
 clear h Em sV hwt Yl LZ Tv Kt CC;go_enter func199,ntmps199;go_wp2_with(first|(go_at_call 230;refine CW.mono ?_;rintro e w1 ⟨rfl,q1,q2⟩;fail)|(go_at_call 231;refine(C1 _).mono ?_;rintro e w5 ⟨rfl,rfl⟩)|(go_at_call 231;refine(C2 _).mono ?_;rintro e w5 ⟨rfl,rfl⟩));refine CW.mono ?_;rintro e w1 ⟨rfl,q1,q2⟩;have Jt:=qH<|q1;have HB1:=qH<|q2;have fy:=q1.1;clear q1 q2 CW;go_wp2_with(first|(go_at_call 231;refine(C1 _).mono ?_;rintro e w5 ⟨rfl,rfl⟩)|(go_at_call 231;refine(C2 _).mono ?_;rintro e w5 ⟨rfl,rfl⟩));obtain⟨lb,hlb⟩:=af w1.heap.size;rw[hlb];have S0:Hid (SSt w (w1.alloc (.cells (madeCells #[Iq 0] n) 3)) w.heap.size lb n 0 mn mx wt):=by
  have b1:Bt w1 (w1.alloc (.cells (madeCells #[Iq 0] n) 3)):=(ag _ w1).alloc (ae _) _;refine⟨⟨by simp;omega,fun j hj=>⟨?_,?_⟩⟩,Jt.below b1,HB1.trans (b1.mono (by omega))⟩;·rw[World.cell?_alloc_at _ _ _ _ hlb.symm];simp[madeCells,hj,Nat.mod_one]
  ·rw[World.frozen?_alloc_at _ _ _ _ hlb.symm]
 have _j:w.heap.size<lb:=by omega
 have GF:Hid (∀k,ar mn (List.range (k+1))=ar mn (List.range k)+mn k):=fun k=>by rw[yl,iF]
 have HSb:Hid (∀k,0<=ar mn (List.range k)/\ar mn (List.range k)<=(k:Int)*100000):=fun k=>by
  refine⟨cK fun j _=>(HM j).1,?_⟩;have:=kI (f:=mn) (l:=List.range k) (b:=100000) fun j _=>by have:=HM j;omega
  rw[Q8]at this;exact this
 clear Jt HB1 hlb mw;go_loopw[8,36] (fun l i wr=>∃(k:Nat) (x:Int),l=Iq x/\i=Iq k/\k<=n/\-20000000<=x/\x<=r/\Hid (x=r-ar mn (List.range k))/\Hid (SSt w wr w.heap.size lb n k mn mx wt)) (fun _ i _=>n-(intOf i).toNat);case atStart=>exact⟨0,r,rfl,rfl,bm _,by omega,by omega,by simp[Hid,ar],S0⟩
 case round=>
  obtain⟨k,x,rfl,rfl,hk,Aw,uA,HX,HS⟩:=hrel;by_cases hlt:k<n
  ·have aR:(k:Int)<(n:Int):=by omega
   have hs:=HS.out;have Ma:=HSb (k+1);have hsm:=GF k;have Ym:=hs.want.2 k hlt;rw[cB]at Ym;obtain⟨a1,ha1⟩:=af (mn k);obtain⟨a2,ha2⟩:=af (mx k);obtain⟨a3,ha3⟩:=af (wt k);have mw:=HM k;rw[ha1]at hsm;rw[ha1,ha2]at mw;rw[ha1,ha2,ha3]at Ym;obtain⟨cw0,cw1,cw2⟩:=Ym;have hzc:=hs.want.1;have _E:=hs.len.1;have cl1:wr.cell? (aq lb k)=some (Iq 0):=by have:=(hs.len.2 k hlt).1;dsimp only at this;rw[if_neg (by omega),cB]at this;exact this
   have fl1:wr.frozen? (aq lb k)=false:=by have:=(hs.len.2 k hlt).2;rw[cB]at this;exact this
   have HX2:Hid (x-a1=r-ar mn (List.range (k+1))):=by show _=_;rw[hsm,HX.out];omega
   have ky:-20000000<=x-a1:=by rw[HX2.out];have:=Ma.2;omega
   have HN:=qH<|fun o=>by have:=hs.next hlt (by omega) (by omega) o;rw[ha1,cB]at this;exact this
   have rj:=mw.1;have hm2:=mw.2.1;have hm3:=mw.2.2.1;clear hs Ma hsm ha1 ha2 ha3 mw HX HS;go_wp2;go_roundw;case rel=>exact⟨k+1,x-a1,rfl,by go_num,by omega,by omega,by omega,HX2,HN _⟩
   grind[intOf]
  ·have hge:¬(k:Int)<(n:Int):=by omega
   obtain rfl:n=k:=by omega
   have hs:=HS.out;have uu:=hs.len.congr fun j hj=>by rw[if_pos hj]
   have _E:=hs.len.1;have b_:=hs.bel;have OZ:=b_.size;by_cases kV:x<0
   ·have CG:Hid (Cw 232 #[Sq lb n n,Iq (-x)] wr fun e w'=>e=Rw (.tuple #[])/\aN w' lb 0 (gb ((List.range n).map mn) n (-x) [])/\wr.grownBy w' (some lb)):=by refine zj ((List.range n).map mn) lb 0 n (-x) wr n uu.irow (n_ n mn) (by omega) (fun y hy=>?_) ⟨by omega,by omega⟩;obtain⟨j,_,rfl⟩:=lZ.1 hy;have:=HM j;omega
    have HF:Hid (∀w2,aN w2 lb 0 (gb ((List.range n).map mn) n (-x) [])->wr.grownBy w2 (some lb)->sO w w2 lb n mn mx wt r):=by intro w2 hi hg;have RO:=SK n mn (fun j=>(HM j).1) r (-x) ux (by rw[HX.out];omega) (by omega);refine⟨by omega,⟨_,hi.frow RO.2,.inl ⟨?_,RO.1⟩⟩,b_.grown hg OZ (fun q hq=>by grind)⟩;have:=HX.out;omega
    clear hs uu b_ HX HS;go_wp2_with fail;refine CG.mono ?_;rintro e w2 ⟨rfl,q1,q2⟩;have HZ:=qH<|HF w2 q1 q2;clear q1 q2;go_wp2;go_ret;exact⟨lb,rfl,HZ⟩
   ·have CP:=qH<|
     Qc n lb 0 n w.heap.size 0 n w.heap.size mn mx wt r x wr uu hs.want (by omega) (by omega) OZ (by omega) (fun j=>by have:=HM j;omega) HX ⟨by omega,by omega⟩;have HF:Hid (∀w2,ot wr w2 n lb 0 w.heap.size mn mx wt r->sO w w2 lb n mn mx wt r):=by rintro w2 ⟨g,A,S,L,V,m,p1,p2,p3⟩;refine⟨by omega,⟨g,p2,.inr ⟨?_,A,S,L,V,m,p1⟩⟩,b_.trans p3⟩;have:=HX.out;omega
    clear hs uu b_ HX HS;go_wp2_with fail;refine CP.mono ?_;rintro e w2 ⟨rfl,q1⟩;have HZ:=qH<|HF w2 q1;clear q1;go_wp2;go_ret;exact⟨lb,rfl,HZ⟩
end
section
variable{Mn Mx Wt:Nat->Int}
def iy(mn mx wt p q:Int):Int:=if mx*q<mn*q+p*wt then mx*q else mn*q+p*wt
theorem zD  mn mx wt p q  :iy mn mx wt p q<=mx*q/\iy mn mx wt p q<=mn*q+p*wt:=by grind[iy]
def Ab(n:Nat)(Mn Mx Wt:Nat->Int)(p q:Int):Int:=ar (fun j=>iy (Mn j) (Mx j) (Wt j) p q) (List.range n)
theorem Cn{mn mx wt p q L V}(hw:0<=wt)(hq:0<q)(hV:0<V)(h:p*V<=L*q):iy mn mx wt p q*V<=iy mn mx wt L V*q:=by
 have h1:=(zD mn mx wt p q).1;have h2:=(zD mn mx wt p q).2;have a1:iy mn mx wt p q*V<=mx*q*V:=lY h1 (by omega);have a2:iy mn mx wt p q*V<=(mn*q+p*wt)*V:=lY h2 (by omega);have a3:=lY h hw;have e1:mx*q*V=mx*V*q:=h_ _ _ _;have e2:(mn*q+p*wt)*V=mn*V*q+p*V*wt:=by rw[IZ,h_ mn,h_ p]
 have e3:(mn*V+L*wt)*q=mn*V*q+L*q*wt:=by rw[IZ,h_ L]
 grind[iy]
theorem jG{f g}{l}(h:∀j∈l,f j<=g j)(e:ar f l=ar g l):∀j∈l,f j=g j:=by
 induction l with
 |nil=>grind
 |cons a l ih=>have h1:=h a (by simp);have h2:ar f l<=ar g l:=kJ fun j hj=>h j (by simp[hj]);grind[bB]
theorem bH.levs{n}{r}{a}{A S}{L W}{m}(h:bH n Mn Mx Wt r a A S L W m)(hw:∀j,Mn j<=Mx j)(hp:∀j,0<=Wt j)(hW:0<=W):
 ∀j,j<n->iy (Mn j) (Mx j) (Wt j) L W=if j∈A then Mx j*W else if j∈S then Mn j*W+L*Wt j else Mn j*W:=by
 obtain⟨hA,hS,hd,fA,fS,fU⟩:=h.facts;intro j hj;unfold iy;by_cases h1:j∈A;·rw[if_pos h1];have:=h.full j h1;rw[Int.sub_mul]at this;omega
 ·rw[if_neg h1];by_cases h2:j∈S;·rw[if_pos h2];have:=h.open_ j h2;grind
  ·rw[if_neg h2];have h0:Wt j=0:=by
    have:=hp j;by_cases e:0<Wt j;·grind
    ·omega
   have hm:=lY (hw j) hW;grind
theorem IE{f}{n}{A}(hA:A.Nodup)(fA:∀j∈A,j<n):ar (fun j=>if j∈A then f j else 0) (List.range n)=ar f A:=by rw[lS (A:=A) yh hA (fun j hj=>by grind) (fun j _ hj=>if_neg hj)];grind[bg]
theorem bH.tots{n}{r}{a}{A S}{L W}{m}(h:bH n Mn Mx Wt r a A S L W m)(hw:∀j,Mn j<=Mx j)(hp:∀j,0<=Wt j)(hW:0<=W):Ab n Mn Mx Wt L W=r*W:=by
 obtain⟨hA,hS,hd,fA,fS,fU⟩:=h.facts;have hl:=h.levs hw hp hW;have e0:Ab n Mn Mx Wt L W=W*ar Mn (List.range n)+(W*ar (fun j=>Mx j-Mn j) A+L*ar Wt S):=by
  unfold Ab;rw[<-fg W,<-fg W,<-fg L,<-IE (f:=fun j=>W*(Mx j-Mn j)) hA (fun j hj=>(fA j hj).1),<-IE (f:=fun j=>L*Wt j) hS (fun j hj=>(fS j hj).1),<-gX,<-gX];refine bg fun j hj=>?_;rw[hl j (by grind)];by_cases h1:j∈A;·grind
  ·grind
 rw[e0,<-h.weight,h.left];grind
theorem bH.same{n}{r}{a}{A S}{L W}{m}(h:bH n Mn Mx Wt r a A S L W m)(hw:∀j,Mn j<=Mx j)(hp:∀j,0<=Wt j)(hW:0<W){p q}(hq:0<q)(ht:Ab n Mn Mx Wt p q=r*q):
 ∀j,j<n->iy (Mn j) (Mx j) (Wt j) p q*W=iy (Mn j) (Mx j) (Wt j) L W*q:=by
 have h2:=h.tots hw hp (by omega);have e1:ar (fun j=>iy (Mn j) (Mx j) (Wt j) p q*W) (List.range n)=r*q*W:=by rw[<-ht];unfold Ab;rw[jx _ W,<-fg];exact bg fun j _=>jx _ _
 have e2:ar (fun j=>iy (Mn j) (Mx j) (Wt j) L W*q) (List.range n)=r*W*q:=by rw[<-h2];unfold Ab;rw[jx _ q,<-fg];exact bg fun j _=>jx _ _
 have e3:r*q*W=r*W*q:=h_ _ _ _;intro j hj;by_cases c:p*W<=L*q;·exact jG (fun j _=>Cn (hp j) hq hW c) (by rw[e1,e2,e3]) j (by simpa using hj)
 ·exact(jG (fun j _=>Cn (hp j) hW hq (by omega)) (by rw[e1,e2,e3]) j (by simpa using hj)).symm
theorem JY{a N q V:Int}(hq:0<q)(hV:0<V)(h:a*V=N*q):a/q=N/V/\a %q*V=N %V*q:=by
 refine⟨?_,?_⟩;·rw[<-Int.mul_ediv_mul_of_pos_left a q hV,h,jx q V,Int.mul_ediv_mul_of_pos_left N V hq]
 ·rw[jx (a %q) V,<-Int.mul_emod_mul_of_pos a q hV,jx V a,h,jx (N %V) q,<-Int.mul_emod_mul_of_pos N V hq,jx V q,jx q N]
def ZS(Mn Mx Wt:Nat->Int)(A S:List Nat)(L W:Int)(j:Nat):Int:=if j∈A then Mx j else if j∈S then Mn j+L*Wt j/W else Mn j
def Tb(Wt:Nat->Int)(S:List Nat)(L W:Int)(j:Nat):Int:=if j∈S then L*Wt j %W else 0
theorem bH.parts{n}{r}{a}{A S}{L W}{m}(h:bH n Mn Mx Wt r a A S L W m)(hw:∀j,Mn j<=Mx j)(hp:∀j,0<=Wt j)(hW:0<W){p q}(hq:0<q)(ht:Ab n Mn Mx Wt p q=r*q):
 ∀j,j<n->iy (Mn j) (Mx j) (Wt j) p q/q=ZS Mn Mx Wt A S L W j/\iy (Mn j) (Mx j) (Wt j) p q %q*W=Tb Wt S L W j*q:=by
 obtain⟨hA,hS,hd,fA,fS,fU⟩:=h.facts;intro j hj;have h1:=h.same hw hp hW hq ht j hj;have h2:=h.levs hw hp (by omega) j hj;have h3:=JY hq hW h1;rw[h3.1,h3.2,h2];unfold ZS Tb;have bc:W≠0:=by omega
 by_cases c1:j∈A;·rw[if_pos c1,if_pos c1,if_neg (hd j c1)];exact⟨Jd _ bc,by simp_all⟩
 ·rw[if_neg c1,if_neg c1];by_cases c2:j∈S
  ·rw[if_pos c2,if_pos c2,if_pos c2];refine⟨?_,?_⟩;·rw[Jj,Int.add_mul_ediv_right _ _ bc,Jj]
   ·rw[Jj,Int.add_mul_emod_self_right]
  ·rw[if_neg c2,if_neg c2,if_neg c2];exact⟨Jd _ bc,by rw[Int.mul_emod_left]⟩
theorem bH.is_bse{n}{r}{a}{A S}{L W}{m}(h:bH n Mn Mx Wt r a A S L W m)  j  (hj:j<n):a j=ZS Mn Mx Wt A S L W j+(if j∈S.take m then 1 else 0):=by obtain⟨hA,hS,hd,fA,fS,fU⟩:=h.facts;rw[h.is j hj];grind[ZS]
theorem bH.left_m{n}{r}{a}{A S}{L W}{m}(h:bH n Mn Mx Wt r a A S L W m)(hp:∀j,0<=Wt j)(bj:S≠[]):m<=S.length/\r-ar (ZS Mn Mx Wt A S L W) (List.range n)=m:=by
 obtain⟨hA,hS,hd,fA,fS,fU⟩:=h.facts;have fW:0<W:=by obtain⟨x,hx⟩:=D5 S bj;rw[h.weight];exact rQ (fS x hx).2 (j_ (fun k _=>hp k) hx)
 have hb:=kB (L:=L) h.weight fW;rw[<-h.miss bj]at hb;have hm:m<=S.length:=by omega
 refine⟨hm,?_⟩;have e:=(h.sum hp).1 bj;rw[bg (fun j hj=>h.is_bse j (by grind)),gX]at e;have e2:ar (fun j=>if j∈S.take m then(1:Int)else 0) (List.range n)=m:=by rw[lS (A:=S) yh hS (fun j hj=>by grind) (fun j _ hj=>if_neg (fun e=>hj (nt e))),DQ S hS m hm]
 omega
theorem bH.frac_pos{n}{r}{a}{A S}{L W}{m}(h:bH n Mn Mx Wt r a A S L W m)(hp:∀j,0<=Wt j)(hW:0<W)  t  (ht:t<m) (hm:m<=S.length):0<L*Wt (S[t]?.getD 0) %W:=by
 have bj:S≠[]:=by intro e;rw[e]at hm;simp at hm;omega
 have YK:t<S.length:=by omega
 obtain⟨i,hi⟩:=af (S[t]?.getD 0);rw[hi];have hge:0<=L*Wt i %W:=I3 _ (by omega);by_cases hz:L*Wt i %W=0
 ·exfalso;have e:ar (fun j=>L*Wt j) S=W*ar (fun j=>L*Wt j/W) S+ar (fun j=>L*Wt j %W) S:=by rw[<-fg,<-gX];exact bg fun j _=>(Int.mul_ediv_add_emod _ _).symm
  rw[fg,<-h.weight]at e;have hmm:=h.miss bj;have qn:S=S.take t++(i::S.drop (t+1)):=by rw[<-hi,di YK];show S=S.take t++(S[t]::S.drop (t+1));rw[<-List.drop_eq_getElem_cons YK,gy]
  have BW:=h.sorted;rw[qn,ka]at BW;have E':∀k∈S.drop (t+1),L*Wt k %W=0:=fun k hk=>by have:=(Rq.1 BW.2.1).1 k hk;have h0:0<=L*Wt k %W:=I3 _ (by omega);omega
  have YJ:ar (fun j=>L*Wt j %W) S=ar (fun j=>L*Wt j %W) (S.take t):=by
   conv=>lhs;rw[qn]
   rw[lR,bB,hz];have:ar (fun j=>L*Wt j %W) (S.drop (t+1))=0:=by
    rw[bg (g:=fun _=>0) E'];have:∀l:List Nat,ar (fun _=>(0:Int)) l=0:=by
     intro l;induction l with
     |nil=>rfl
     |cons a l ih=>grind[bB]
    exact this _
   omega
  have hbd:ar (fun j=>L*Wt j %W) (S.take t)<=((S.take t).length:Int)*W:=kI fun j _=>Int.le_of_lt (Q4 _ hW);have aO:(S.take t).length=t:=by rw[bU];omega
  rw[aO]at hbd;have e4:W*(m:Int)=ar (fun j=>L*Wt j %W) S:=by rw[hmm,Int.mul_sub,jx W L];omega
  have h6:W*(t+1:Int)<=W*(m:Int):=Xa (by omega) (by omega);grind
 ·omega
theorem bH.all_full{n}{r}{a}{A}{L W}{m}(h:bH n Mn Mx Wt r a A [] L W m)(hw:∀j,Mn j<=Mx j)(hp:∀j,0<=Wt j){p q}(hq:0<q)(ht:Ab n Mn Mx Wt p q=r*q):
 (∀j,j<n->iy (Mn j) (Mx j) (Wt j) p q=a j*q)/\r=ar a (List.range n):=by
 obtain⟨nA,nS,hd,fA,fS,fU⟩:=h.facts;have hs:=(h.sum hp).2 rfl;have qj:∀j∈List.range n,iy (Mn j) (Mx j) (Wt j) p q<=a j*q:=fun j hj=>by
  have hj:j<n:=by simpa using hj
  rw[h.is j hj];have h1:=(zD (Mn j) (Mx j) (Wt j) p q);grind
 have e1:ar (fun j=>a j*q) (List.range n)=ar a (List.range n)*q:=by rw[jx,<-fg];exact bg fun j _=>jx _ _
 have YJ:=kJ qj;have ht':ar (fun j=>iy (Mn j) (Mx j) (Wt j) p q) (List.range n)=r*q:=ht;rw[ht',e1]at YJ;have h3:=Xb YJ hq;have hr:r=ar a (List.range n):=by have:=h.pos;omega
 grind[jG]
structure AC(n:Nat)(f:Nat->Int)(b:Nat):Prop where
 lt:b<n
 top:∀j,j<n->f j<=f b
 first:∀j,j<b->f j<f b
theorem AC.uniq{n}{f}{b c}(h:AC n f b)(k:AC n f c):b=c:=by
 rcases Jb b c with e|e|e;·have:=k.first b e;have:=h.top c k.lt;omega
 ·exact e
 ·have:=h.first c e;have:=k.top b h.lt;omega
theorem bH.best{n}{r}{a}{A S}{L W}{m}(h:bH n Mn Mx Wt r a A S L W m)(hp:∀j,0<=Wt j)(hW:0<W)  t  (ht:t<m) (hm:m<=S.length) (rest:Nat->Int) {q} (hq:0<q) (hr:∀j,j<n->rest j*W=Tb Wt S L W j*q):
 AC n (fun j=>if j∈S.take t then-1 else rest j) (S[t]?.getD 0):=by
 obtain⟨nA,nS,hd,fA,fS,fU⟩:=h.facts;have fW:=h.frac_pos hp hW t ht hm;have YK:t<S.length:=by omega
 obtain⟨i,hi⟩:=af (S[t]?.getD 0);rw[hi]at fW⊢;have hiS:i∈S:=by rw[<-hi,di YK];exact rT YK
 have qn:S=S.take t++(i::S.drop (t+1)):=by rw[<-hi,di YK];show S=S.take t++(S[t]::S.drop (t+1));rw[<-List.drop_eq_getElem_cons YK,gy]
 have hnt:i∉S.take t:=by have:=nS;rw[qn,QX]at this;exact fun hm=>this.2.2 i hm i (by simp) rfl
 have BW:=h.sorted;rw[qn,ka]at BW;have E':=(Rq.1 BW.2.1).1;have hri:=hr i (fS i hiS).1;have hfi:Tb Wt S L W i=L*Wt i %W:=by unfold Tb;rw[if_pos hiS]
 rw[hfi]at hri;have zkA:0<rest i:=by
  have h1:=Int.mul_pos fW hq;rw[<-hri]at h1;by_cases e:0<rest i;·exact e
  ·have:rest i*W<=0:=Int.mul_nonpos_of_nonpos_of_nonneg (by omega) (by omega);omega
 have key:∀j,j<n->j∉S.take t->j≠i->(rest j<rest i\/(rest j=rest i/\i<j)):=by
  intro j hj zoO hji;have _v:=hr j hj;by_cases hjS:j∈S
  ·have OA:j∈S.drop (t+1):=by
    rw[qn]at hjS;rcases lX.1 hjS with h1|h1;·grind
    ·grind
   have hfj:Tb Wt S L W j=L*Wt j %W:=by unfold Tb;rw[if_pos hjS]
   rw[hfj]at _v;rcases E' j OA with h1|⟨h1,h2⟩;·left;have h3:=Q3 h1 hq;rw[<-hri,<-_v]at h3;exact Int.lt_of_mul_lt_mul_right h3 (by omega)
   ·right;refine⟨?_,h2⟩;rw[<-h1,<-hri]at _v;exact Int.eq_of_mul_eq_mul_right (by omega) _v
  ·left;have hfj:Tb Wt S L W j=0:=by unfold Tb;rw[if_neg hjS]
   rw[hfj,Int.zero_mul]at _v;have:rest j=0:=by
    rcases Int.mul_eq_zero.1 _v with h|h;·exact h
    ·omega
   omega
 refine⟨(fS i hiS).1,fun j hj=>?_,fun j hj=>?_⟩
 ·rw[if_neg hnt];by_cases c:j∈S.take t;·rw[if_pos c];omega
  ·rw[if_neg c];by_cases e:j=i;·rw[e];exact lV _
   ·rcases key j hj c e with h|⟨h,_⟩<;>omega
 ·rw[if_neg hnt];have E9:j<n:=by have:=(fS i hiS).1;omega
  by_cases c:j∈S.take t;·rw[if_pos c];omega
  ·rw[if_neg c];rcases key j E9 c (by omega)with h|⟨_,h⟩<;>omega
theorem DN  f   n k  (hk:k<=n):ar f (List.range n)=ar f (List.range k)+ar f ((List.range n).drop k):=by
 rw[<-lR];congr 1;have:List.range k=(List.range n).take k:=by rw[List.take_range,Rl hk]
 rw[this,gy]
theorem Cu{n k j}(h:j∈(List.range n).drop k):k<=j/\j<n:=by obtain⟨i,hi,e⟩:=rP.1 h;grind
theorem AB.le_of{n}{mn}{r}{g g'}(h:AB n mn r g)(h':AB n mn r g')  k  (hk:k<n) (e:∀j,j<k->g j=g' j):g' k<=g k:=by
 by_cases c:g' k<=g k;·exact c
 ·exfalso;have hb:=h'.bd k hk;have s1:=DN g n (k+1) (by omega);have s2:=DN g' n (k+1) (by omega);have t1:ar g ((List.range n).drop (k+1))<=0:=by
   have:ar g ((List.range n).drop (k+1))<=ar (fun _=>0) ((List.range n).drop (k+1)):=kJ fun j hj=>by have:=Cu hj;rw[h.behind k j (by omega) (by omega) (by omega)];omega
   refine ke this ?_;have z:∀l:List Nat,ar (fun _=>(0:Int)) l=0:=by
    intro l;induction l with
    |nil=>rfl
    |cons a l ih=>grind[bB]
   rw[z];exact lV _
  have t2:0<=ar g' ((List.range n).drop (k+1)):=cK fun j hj=>(h'.bd j (Cu hj).2).1;have t3:ar g (List.range k)=ar g' (List.range k):=bg fun j hj=>e j (by grind);rw[yl,iF]at s1 s2;have:=h.sum;have:=h'.sum;omega
theorem AB.uniq{n}{mn}{r}{g g'}(h:AB n mn r g)(h':AB n mn r g'):∀j,j<n->g j=g' j:=by
 have:∀k,k<=n->∀j,j<k->g j=g' j:=by
  intro k;induction k with
  |zero=>omega
  |succ k ih=>
   intro hk j hj;have ihk:=ih (by omega);by_cases e:j<k;·grind
   ·obtain rfl:j=k:=by omega
    have a1:=h.le_of h' j (by omega) ihk;have a2:=h'.le_of h j (by omega) (fun i hi=>(ihk i hi).symm);omega
 grind
end
section
open Go.RowKit Go.Sort
def Mz(Mn Mx Wt:Nat->Int):Prop:=∀j,0<=Mn j/\Mn j<=Mx j/\Mx j<=100000/\0<=Wt j/\Wt j<=100000
structure GK(n:Nat)(Mn Mx Wt:Nat->Int)(r p q:Int)(g:Nat->Int)(S:List Nat)(m:Nat)(base rest:Nat->Int):Prop where
 base_:∀j,j<n->iy (Mn j) (Mx j) (Wt j) p q/q=base j
 rest_:∀j,j<n->iy (Mn j) (Mx j) (Wt j) p q %q=rest j
 left:r-ar base (List.range n)=m
 le:m<=S.length
 zkX:S.Nodup
 lt:∀j∈S,j<n
 best:∀t,t<m->AC n (fun j=>if j∈S.take t then-1 else rest j) (S[t]?.getD 0)
 is:∀j,j<n->g j=base j+(if j∈S.take m then 1 else 0)
theorem pg{n}{Mn Mx Wt}{r p q}{g}(hM:Mz Mn Mx Wt)(Ep:cV n Mn Mx Wt r g)(qj:ar Mn (List.range n)<=r)(hq:0<q)(ht:Ab n Mn Mx Wt p q=r*q):∃S m base rest,GK n Mn Mx Wt r p q g S m base rest:=by
 have hw:=fun j=>(hM j).2.1;have hp:=fun j=>(hM j).2.2.2.1;rcases Ep with⟨h1,_⟩|⟨_,A,S,L,V,m,h⟩;·omega
 ·obtain⟨nA,nS,hd,fA,fS,fU⟩:=h.facts;by_cases hS:S=[];·subst hS;have hf:=h.all_full hw hp hq ht;refine⟨[],0,g,fun j=>iy (Mn j) (Mx j) (Wt j) p q %q,fun j hj=>?_,fun _ _=>rfl,by omega,by simp,by simp,by simp,fun t ht=>by omega,fun j hj=>by simp⟩;rw[hf.1 j hj];exact Jd _ (by omega)
  ·have hV:0<V:=by obtain⟨x,hx⟩:=D5 S hS;rw[h.weight];exact rQ (fS x hx).2 (j_ (fun k _=>hp k) hx)
   have _r:=h.parts hw hp hV hq ht;have BU:=h.left_m hp hS;exact⟨S,m,ZS Mn Mx Wt A S L V,fun j=>iy (Mn j) (Mx j) (Wt j) p q %q,fun j hj=>(_r j hj).1,fun _ _=>rfl,BU.2,BU.1,nS,fun j hj=>(fS j hj).1,fun t ht=>h.best hp hV t ht BU.1 _ hq (fun j hj=>(_r j hj).2),fun j hj=>h.is_bse j hj⟩
theorem AC.congr{n}{f g}{b}(h:AC n f b)(e:∀j,j<n->f j=g j):AC n g b:=by
 refine⟨h.lt,fun j hj=>?_,fun j hj=>?_⟩;·rw[<-e j hj,<-e b h.lt];exact h.top j hj
 ·have:=h.lt;rw[<-e j (by omega),<-e b h.lt];exact h.first j hj
theorem GK.uniq{n}{Mn Mx Wt}{r p q}{g g'}{S S'}{m m'}{base V7 rest WO}(h:GK n Mn Mx Wt r p q g S m base rest)(h':GK n Mn Mx Wt r p q g' S' m' V7 WO):∀j,j<n->g j=g' j:=by
 have hb:=fun j hj=>(h.base_ j hj).symm.trans (h'.base_ j hj);have hr:=fun j hj=>(h.rest_ j hj).symm.trans (h'.rest_ j hj);have hs:ar base (List.range n)=ar V7 (List.range n):=bg fun j hj=>hb j (by grind);have hm:m=m':=by have h1:=h.left;have h2:=h'.left;omega
 subst hm;have ht:∀t,t<=m->S.take t=S'.take t:=by
  intro t;induction t with
  |zero=>grind
  |succ t ih=>
   intro qj;have e:=ih (by omega);have b1:=h.best t (by omega);have b2:=h'.best t (by omega);have b3:=b1.congr (g:=fun j=>if j∈S'.take t then-1 else WO j) fun j hj=>by grind
   have e2:=b3.uniq b2;have l1:t<S.length:=by have:=h.le;omega
   have l2:t<S'.length:=by have:=h'.le;omega
   rw[di l1,di l2]at e2;have e3:S[t]=S'[t]:=e2;rw[ip l1,ip l2,e,e3]
 intro j hj;rw[h.is j hj,h'.is j hj,hb j hj,ht m (ae _)]
theorem cV.uniq{n}{Mn Mx Wt}{r}{g g'}(hM:Mz Mn Mx Wt)(h:cV n Mn Mx Wt r g)(h':cV n Mn Mx Wt r g'):∀j,j<n->g j=g' j:=by
 have hw:=fun j=>(hM j).2.1;have hp:=fun j=>(hM j).2.2.2.1;have k:=h;have k':=h';rcases h with⟨a,b⟩|⟨a,A,S,L,V,m,p⟩
 ·rcases h' with⟨a',b'⟩|⟨a',_⟩;·exact b.uniq b'
  ·omega
 ·rcases h' with⟨a',_⟩|⟨a',A',S',L',V',m',p'⟩;·omega
  ·obtain⟨_,_,_,fA,fS,fU⟩:=p.facts;obtain⟨_,_,_,fA',fS',zbm⟩:=p'.facts;by_cases e:S=[]
   ·by_cases e':S'=[];·subst e;subst e';intro j hj;rw[p.is j hj,p'.is j hj];grind
    ·have hV:0<V':=by obtain⟨x,hx⟩:=D5 S' e';rw[p'.weight];exact rQ (fS' x hx).2 (j_ (fun k _=>hp k) hx)
     have ht:=p'.tots hw hp (by omega);obtain⟨_,_,_,_,q1⟩:=pg hM k a hV ht;obtain⟨_,_,_,_,q2⟩:=pg hM k' a' hV ht;exact q1.uniq q2
   ·have hV:0<V:=by obtain⟨x,hx⟩:=D5 S e;rw[p.weight];exact rQ (fS x hx).2 (j_ (fun k _=>hp k) hx)
    have ht:=p.tots hw hp (by omega);obtain⟨_,_,_,_,q1⟩:=pg hM k a hV ht;obtain⟨_,_,_,_,q2⟩:=pg hM k' a' hV ht;exact q1.uniq q2
end
section
open Go.RowKit Go.Sort Go.Proofs.Tryz
def WIn(W:World)(v:Value)(n:Nat)(a b c:Nat->Int):Prop:=∃p cap,v=.slice p n cap/\(n=0\/∃g off,p=some (aq g off)/\ib W g off n a b c)
theorem WIn.below{A B}{v}{n}{a b c}(h:WIn A v n a b c)(hb:Bt A B):WIn B v n a b c:=by
 obtain⟨p,cap,hv,h⟩:=h;refine⟨p,cap,hv,?_⟩;rcases h with h|⟨g,off,hp,hr⟩;·omega
 ·exact .inr ⟨g,off,hp,hr.below hb⟩
def yI(w w':World)(v:Value)(n:Nat)(a b c:Nat->Int)(aM cR:Int):Prop:=
 ((n=0\/200<n)/\v=.slice none 0 0/\w'=w)\/(0<n/\n<=200/\∃lb,v=Sq lb n n/\sO w w' lb n (fun j=>cl (a j)) (fun j=>ic (a j) (b j)) (fun j=>cl (c j)) (rm aM cR n))
theorem qO  v   n   a b c   aM cR   w  (h:WIn w v n a b c) (hn:n<=5864062014805):
 Cw 199 #[Iq aM,Iq cR,v] w fun e w'=>∃v,e=Rw v/\yI w w' v n a b c aM cR:=by
 obtain⟨p,cap,rfl,h⟩:=h;by_cases h0:n=0\/200<n;·exact(Ge p n cap aM cR w h0 (by omega)).mono fun e w' ⟨he,hw⟩=>⟨_,he,.inl ⟨h0,rfl,hw⟩⟩
 ·obtain⟨g,off,rfl,hr⟩:=h.resolve_left (fun e=>h0 (.inl e));exact(Lw n g off cap a b c aM cR w hr (by omega) (by omega)).mono fun e w' ⟨lb,he,hs⟩=>⟨_,he,.inr ⟨by omega,by omega,lb,rfl,hs⟩⟩
theorem yI.below{w w'}{v}{n}{a b c}{aM cR}(h:yI w w' v n a b c aM cR):Bt w w':=by
 rcases h with⟨_,_,rfl⟩|⟨_,_,lb,_,h⟩;·exact ag _ _
 ·exact h.2.2
end
section
open Go.RowKit Go.Sort
theorem cV.tiles{n}{mn mx wt g}{r}(h:cV n mn mx wt r g)(hm:∀j,0<=mn j/\mn j<=mx j/\mx j<=100000/\0<=wt j/\wt j<=100000):
 (∀j,j<n->0<=g j/\g j<=mx j)/\(r<=ar mn (List.range n)\/r<=ar (fun j=>if 0<wt j then mx j else mn j) (List.range n)->ar g (List.range n)=r)/\
  (ar mn (List.range n)<r->ar (fun j=>if 0<wt j then mx j else mn j) (List.range n)<r->ar g (List.range n)=ar (fun j=>if 0<wt j then mx j else mn j) (List.range n)):=by
 have qj:ar mn (List.range n)<=ar (fun j=>if 0<wt j then mx j else mn j) (List.range n):=kJ fun j _=>by grind
 rcases h with⟨h1,hb⟩|⟨h1,A,S,L,V,m,hp⟩;·refine⟨fun j hj=>?_,fun _=>hb.sum,fun h=>by omega⟩;have:=hb.bd j hj;grind
 ·have ht:=hp.tiles (fun j=>(hm j).2.1) (fun j=>(hm j).2.2.2.1);refine⟨fun j hj=>?_,fun h=>by omega,fun _ h=>by omega⟩;have:=hp.bds (fun j=>(hm j).2.1) (fun j=>(hm j).2.2.2.1) j hj;grind
theorem iN(a b c:Nat->Int)  j  :0<=cl (a j)/\cl (a j)<=ic (a j) (b j)/\ic (a j) (b j)<=100000/\0<=cl (c j)/\cl (c j)<=100000:=
 ⟨(gq _).1,(mq _ _).1,(mq _ _).2,(gq _).1,(gq _).2⟩
end
section
open Go.RowKit Go.Sort Go.Proofs.Tryz
def offs(g:Nat->Int)(cg:Int)(k:Nat):Int:=ar (fun j=>g j+cg) (List.range k)
theorem qE  g   cg   k  :offs g cg (k+1)=offs g cg k+(g k+cg):=by unfold offs;rw[yl,iF]
theorem tc{g}{cg}{n}(hg:∀j,j<n->0<=g j/\g j<=100000)(hc:0<=cg/\cg<=100000)  k  (hk:k<=n):0<=offs g cg k/\offs g cg k<=(k:Int)*200000:=by
 refine⟨cK fun j hj=>by grind,?_⟩;have:=kI (f:=fun j=>g j+cg) (l:=List.range k) (b:=200000) fun j hj=>by grind
 rw[Q8]at this;exact this
def MF(w w':World)(v:Value)(n:Nat)(a b c:Nat->Int)(aM cR:Int):Prop:=
 ((n=0\/200<n)/\v=.slice none 0 0/\w'=w)\/(0<n/\n<=200/\∃lb g,v=Sq lb n n/\dV w' lb 0 n (offs g (cl cR))/\cV n (fun j=>cl (a j)) (fun j=>ic (a j) (b j)) (fun j=>cl (c j)) (rm aM cR n) g/\Bt w w')
theorem MF.below{w w'}{v}{n}{a b c}{aM cR}(h:MF w w' v n a b c aM cR):Bt w w':=by
 rcases h with⟨_,_,rfl⟩|⟨_,_,lb,g,_,_,_,h⟩;·exact ag _ _
 omega
theorem UC  g   cg   k   j  :Vo (fun j=>if j<k then offs g cg j else g j) k (offs g cg k) j=if j<k+1 then offs g cg j else g j:=by grind[Vo]
def Xy(w:World)(v:Value):Prop:=∀lb o n c,v=.slice (some (aq lb o)) n c->w.heap.size<=lb
theorem C8(v:Value)(n:Nat)(a b c:Nat->Int)(aM cR:Int)(w:World)(h:WIn w v n a b c)(hn:n<=5864062014805):
 Cw 200 #[Iq aM,Iq cR,v] w fun e w'=>∃v,e=Rw v/\MF w w' v n a b c aM cR/\Xy w v:=by
 have C2:Hid (Cw 199 #[Iq aM,Iq cR,v] w fun e w'=>∃v,e=Rw v/\yI w w' v n a b c aM cR):=qO v n a b c aM cR w h hn;have CC:Hid (∀w,Cw 231 #[Iq cR] w fun e w'=>e=Rw (Iq (cl cR))/\w'=w):=fun w=>shClamped_any cR w;have LZ:=gq cR;obtain⟨cg,Yj⟩:=af (cl cR);have HCG:Hid (cl cR=cg):=Yj;rw[Yj]at CC LZ;have cg0:=LZ.1;have cg1:=LZ.2;clear h Yj LZ;go_enter func200,ntmps200;go_wp2_with fail;refine C2.out.mono ?_;rintro e w2 ⟨v2,rfl,hs⟩;clear C2;rcases hs with⟨h0,rfl,rfl⟩|⟨h1,h2,lb,rfl,hlb,⟨g,hrow,Ep⟩,zbp⟩
 ·have HO:Hid (MF w2 w2 (.slice none 0 0) n a b c aM cR):=.inl ⟨h0,rfl,rfl⟩;clear h0;go_wp2;go_loop[8,17] (fun s i=>s=Iq 0/\i=Iq 0) (fun _ _=>0);case atStart=>grind
  case round=>obtain⟨rfl,rfl⟩:=hrel;go_wp2;go_ret;exact⟨_,rfl,HO.out,fun lb o n c e=>by cases e⟩
 ·have Ek:∀j,j<n->0<=g j/\g j<=100000:=fun j hj=>by have h1:=(Ep.tiles (iN a b c)).1 j hj;have h2:=iN a b c j;omega
  have HGB:Hid (∀j,j<n->0<=g j/\g j<=100000):=Ek;have HOB:Hid (∀k,k<=n->0<=offs g cg k/\offs g cg k<=(k:Int)*200000):=fun k hk=>tc Ek ⟨cg0,cg1⟩ k hk;have Xu:Hid (cV n (fun j=>cl (a j)) (fun j=>ic (a j) (b j)) (fun j=>cl (c j)) (rm aM cR n) g):=Ep;have R0:Hid (dV w2 lb 0 n (fun j=>if j<0 then offs g cg j else g j)/\Bt w w2):=⟨hrow.congr fun j _=>by simp,zbp⟩;clear Ek Ep hrow zbp;go_wp2;go_loopw[8,17] (fun s i wr=>∃k:Nat,s=Iq (offs g cg k)/\i=Iq k/\k<=n/\Hid (dV wr lb 0 n (fun j=>if j<k then offs g cg j else g j)/\Bt w wr)) (fun _ i _=>n-(intOf i).toNat);case atStart=>exact⟨0,rfl,rfl,bm _,R0.out⟩
  case round=>
   obtain⟨k,rfl,rfl,hk,HR⟩:=hrel;by_cases hlt:k<n
   ·have aR:(k:Int)<(n:Int):=by omega
    have hc:=HR.out.1.2 k hlt;dsimp only at hc;rw[if_neg (by omega),cB]at hc;have hgk:=HGB.out k hlt;have ho1:=HOB.out k hk;have ho2:=HOB.out (k+1) (by omega);have L8:=qE g cg k;have KG:=HR.out.1.set k (offs g cg k) hlt;rw[cB]at KG;have HN:Hid (dV (wr.setCell (aq lb k) (Iq (offs g cg k))) lb 0 n (fun j=>if j<k+1 then offs g cg j else g j)/\Bt w (wr.setCell (aq lb k) (Iq (offs g cg k)))):=⟨KG.congr fun j _=>UC g cg k j,HR.out.2.setCell hlb _⟩;obtain⟨gk,Kz⟩:=af (g k);rw[Kz]at hc hgk L8;obtain⟨o1,zbZ⟩:=af (offs g cg k);rw[zbZ]at ho1 L8 HN⊢;have HNX:Hid (offs g cg (k+1)=o1+(gk+cg)):=L8;obtain⟨cl1,fl1⟩:=hc;obtain⟨gk0,gk1⟩:=hgk;obtain⟨o10,o11⟩:=ho1;clear KG Kz zbZ ho2 L8 HR;go_wp2_with(go_at_call 231;refine(CC.out _).mono ?_;rintro e w5 ⟨rfl,rfl⟩);go_roundw;case rel=>exact⟨k+1,by rw[HNX.out],by go_num,by omega,HN.out⟩
    grind[intOf]
   ·have hge:¬(k:Int)<(n:Int):=by omega
    obtain rfl:n=k:=by omega
    have HF:Hid (MF w wr (Sq lb n n) n a b c aM cR):=.inr ⟨h1,h2,lb,g,rfl,by rw[HCG.out];exact HR.out.1.congr fun j hj=>by omega,Xu.out,HR.out.2⟩;clear HR;go_wp2;go_ret;exact⟨_,rfl,HF.out,fun lb' o n' c' e=>by simp_all⟩
