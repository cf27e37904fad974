import Derived.Shelf.SortM.Plain
import Derived.Shelf.SortM.SortNone
import Derived.Test.YtiaimhjebnobnaaGreatDoorQ12
set_option linter.all false
set_option maxRecDepth 100000
set_option maxHeartbeats 16000000
namespace Go.Proofs.YtiaimhjebnobnaaGreatDoor
end Go.Proofs.YtiaimhjebnobnaaGreatDoor
namespace Go.Proofs
open Go.Shelf
shelf_lay_g SlLaysM.n5 Slgm 5 at Tryz 244 as Tryz.sortLaid
end Go.Proofs
namespace Go.Proofs.YtiaimhjebnobnaaGreatDoor
section
open Go.RowKit Go.Sort Go.Proofs.Tryz
theorem u_{w:World}{g n off}{os}  d  :w.grownBy (grow (putRow (Value.int .i64) (Sort.ahead w n) g off d) os) (some g):=by refine⟨rfl,rfl,rfl,by simp,fun k hk bZ=>?_⟩;rw[heap_grow_old _ _ (by simpa using hk)];have:g≠k:=fun e=>bZ (by rw[e]);simp[putRow,mapBlock,Sort.ahead,Array.getElem?_modify,this]
theorem wE  zs   blk off cap n   w  (h:bp w blk off zs) (hn:zs.length=n) (bY:n<=1099511627776):
 Cw 244 #[.slice (some (az blk off)) n cap] w fun e w'=>e=Rw (.tuple #[])/\bp w' blk off (zs.mergeSort fun x y=>decide (x<=y))/\w.grownBy w' (some blk):=by
 subst hn;have hH:Holds (Value.int .i64) w blk off zs.toArray:=fun j hj=>by
  have rq:j<zs.length:=by simpa using hj
  refine⟨?_,(h.2 j rq).2⟩;rw[(h.2 j rq).1];grind
 refine(AnyM.slices_Sort_int Tryz.sortLaid blk off cap zs w hH h.1 (by omega)).mono ?_;rintro e w' ⟨he,q,os,rfl⟩;refine⟨he,?_,u_ _⟩;obtain⟨ms,xh⟩:=ag (zs.mergeSort fun x y=>decide (x<=y));have BG:ms.length=zs.length:=by rw[<-xh];exact(List.mergeSort_perm _ _).length_eq
 rw[xh];have h1:Holds (Value.int .i64) (putRow (Value.int .i64) (Sort.ahead w q) blk off ms.toArray) blk off ms.toArray:=holds_putRow _ _ _ _ zs.toArray _ hH (by omega);have hX:blk<(putRow (Value.int .i64) (Sort.ahead w q) blk off ms.toArray).heap.size:=by simpa using h.1
 have hB:Below (putRow (Value.int .i64) (Sort.ahead w q) blk off ms.toArray).heap.size (putRow (Value.int .i64) (Sort.ahead w q) blk off ms.toArray) (grow (putRow (Value.int .i64) (Sort.ahead w q) blk off ms.toArray) os):=
  ⟨rfl,rfl,rfl,by simp,fun k hk=>heap_grow_old _ _ hk⟩;refine⟨zz008 hX hB.size,fun j hj=>?_⟩;have:=h1 j (by omega);refine⟨(hB.cell (p:=(az blk (off+j))) hX).trans (this.1.trans ?_),(hB.frozen (p:=(az blk (off+j))) hX).trans this.2⟩;simp[hj]
def dh(W:World)(blk off n:Nat)(g:Nat->Int):Prop:=blk<W.heap.size/\∀j,j<n->W.cell? (az blk (off+j))=some (Iq (g j))/\W.frozen? (az blk (off+j))=false
def qX(g:Nat->Int)(i:Nat)(y:Int):Nat->Int:=fun k=>if k=i then y else g k
theorem dh.set{W}{blk off n}{g}(h:dh W blk off n g)  i   y  (hi:i<n):dh (W.setCell (az blk (off+i)) (Iq y)) blk off n (qX g i y):=by
 refine⟨by simpa using h.1,fun k hk=>?_⟩;simp only[ij];refine⟨?_,(h.2 k hk).2⟩;rw[A_ _ _ _ _ _ ⟨_,(h.2 i hi).1⟩];unfold qX;by_cases e:k=i;·grind
 ·rw[if_neg e,if_neg (by omega)];exact(h.2 k hk).1
theorem dh.other{W}{blk off n}{g}(h:dh W blk off n g)  b o   v  (hb:b≠blk):dh (W.setCell (az b o) v) blk off n g:=by refine⟨by simpa using h.1,fun k hk=>?_⟩;simp only[ij];refine⟨?_,(h.2 k hk).2⟩;rw[eu _ _ _ _ (fun e=>hb (by grind)),(h.2 k hk).1]
theorem dh.congr{W}{blk off n}{g g'}(h:dh W blk off n g)(e:∀j,j<n->g j=g' j):dh W blk off n g':=
 ⟨h.1,fun j hj=>by rw[<-e j hj];exact h.2 j hj⟩
theorem dh.below{A B}{blk off n}{g}(h:dh A blk off n g)(hb:Bt A B):dh B blk off n g:=
 ⟨zz008 h.1 hb.size,fun j hj=>⟨(hb.cell (p:=(az blk (off+j))) h.1).trans (h.2 j hj).1,(hb.frozen (p:=(az blk (off+j))) h.1).trans (h.2 j hj).2⟩⟩
theorem Ab{A B:World}{r b o}(hb:A.grownBy B (some r))(hl:b<A.heap.size)(hn:b≠r):B.frozen? (az b o)=A.frozen? (az b o):=by unfold World.frozen?;rw[hb.block b hl (fun e=>hn (by injection e))]
theorem dh.grown{A B}{blk off n r}{g}(h:dh A blk off n g)(hb:A.grownBy B (some r))(hn:blk≠r):dh B blk off n g:=
 ⟨zz008 h.1 hb.size,fun j hj=>⟨hb.cell (h.2 j hj).1 (by simpa using hn),(Ab hb h.1 hn).trans (h.2 j hj).2⟩⟩
theorem fg.other{W}{blk off n}{a b c}(h:fg W blk off n a b c)  r o   v  (hb:r≠blk):fg (W.setCell (az r o) v) blk off n a b c:=by have k:∀p,(W.setCell (az r o) v).cell? (az blk p)=W.cell? (az blk p):=fun p=>eu _ _ _ _ (fun e=>hb (by grind));refine⟨by simpa using h.1,fun j hj=>by rw[k,k,k];exact h.2 j hj⟩
theorem bp.other{W}{blk off}{d}(h:bp W blk off d)  b o   v  (hb:b≠blk):bp (W.setCell (az b o) v) blk off d:=by refine⟨by simpa using h.1,fun k hk=>?_⟩;simp only[ij];refine⟨?_,(h.2 k hk).2⟩;rw[eu _ _ _ _ (fun e=>hb (by grind)),(h.2 k hk).1]
theorem EC{Q}(hq:Q.Nodup):∃A,((dV Q).mergeSort fun x y=>decide (x<=y))=dV A/\A.Perm Q/\A.Pairwise (·<·):=by
 obtain⟨A,hA,hp⟩:=rK (List.mergeSort_perm (dV Q) fun x y=>decide (x<=y));refine⟨A,hA,hp,?_⟩;have hs:(dV A).Pairwise (fun x y=>decide (x<=y)=true):=by rw[<-hA];exact List.pairwise_mergeSort (fun a b c h1 h2=>by grind) (fun a b=>by simp;omega) _
 unfold dV at hs;rw[RF]at hs;have hn:=hp.nodup_iff.2 hq;refine(hs.and hn).imp fun h=>?_;grind
structure S4(w wr:World)(n lb lo wb wo ob oo B fb:Nat)(Mn Mx Wt g:Nat->Int)(A:List Nat)(L V:Int)(k:Nat):Prop where
 len:dh wr lb lo n (fun j=>if j∈A.take k then g j+L*Wt j/V else g j)
 frac:dh wr fb 0 n (fun j=>if j∈A.take k then L*Wt j %V else 0)
 open_:bp wr ob oo (dV A)
 want:fg wr wb wo n Mn Mx Wt
 box:wr.cell? (az (fb+1) 0)=some (Sq fb n n)
 size:fb+1<wr.heap.size
 bel:Below B w wr
theorem ul{A}{k}(hk:k<A.length):(dV A)[k]?.getD 0=((A[k]?.getD 0:Nat):Int):=by simp[dV,hk]
theorem fQ(A:List Nat)  k  (hk:k<A.length):A.take (k+1)=A.take k++[A[k]?.getD 0]:=by simp_all
theorem tZ{A:List Nat}{k}(hk:k<A.length):A[k]?.getD 0∈A:=by grind
theorem gQ{A:List Nat}{k}(hA:A.Nodup)(hk:k<A.length):A[k]?.getD 0∉A.take k:=by have h:=hA.sublist (List.take_sublist (k+1) A);grind[fQ]
theorem S4.next{w wr}{n lb lo wb wo ob oo B fb}{Mn Mx Wt g}{A}{L V}{k}(h:S4 w wr n lb lo wb wo ob oo B fb Mn Mx Wt g A L V k)(hA:A.Nodup)(hk:k<A.length)  i  (hi:A[k]?.getD 0=i) (gA:i<n) (h1:lb≠ob) (h2:lb≠wb) (h3:lb<fb) (h4:ob<fb) (h5:wb<fb) (kH:B<=lb) (oy:B<=fb):
 S4 w ((wr.setCell (az lb (lo+i)) (Iq (g i+L*Wt i/V))).setCell (az fb (0+i)) (Iq (L*Wt i %V))) n lb lo wb wo ob oo B fb Mn Mx Wt g A L V (k+1):=by
 have ht:=fQ A k hk;have W9:=gQ hA hk;rw[hi]at ht W9;have hm:∀j,j∈A.take (k+1)↔j∈A.take k\/j=i:=fun j=>by rw[ht];simp
 refine⟨?_,?_,?_,?_,?_,?_,?_⟩;·refine((h.len.set i (g i+L*Wt i/V) gA).other _ _ _ (by omega)).congr fun j hj=>?_;grind[qX]
 ·refine((h.frac.other lb (lo+i) (Iq (g i+L*Wt i/V)) (by omega)).set i _ gA).congr fun j hj=>?_;grind[qX]
 ·exact(h.open_.other _ _ _ h1).other _ _ _ (by omega)
 ·exact(h.want.other _ _ _ h2).other _ _ _ (by omega)
 ·rw[eu _ _ _ _ (fun e=>by grind),eu _ _ _ _ (fun e=>by grind)];exact h.box
 ·simpa using h.size
 ·exact(h.bel.setCell kH _).setCell oy _
theorem S4.below{w W W'}{n lb lo wb wo ob oo B fb}{Mn Mx Wt g}{A}{L V}{k}(h:S4 w W n lb lo wb wo ob oo B fb Mn Mx Wt g A L V k)(hb:Bt W W')(hB:B<=fb):S4 w W' n lb lo wb wo ob oo B fb Mn Mx Wt g A L V k:=
 ⟨h.len.below hb,h.frac.below hb,h.open_.below hb,h.want.below hb,(hb.cell (p:=(az (fb+1) 0)) h.size).trans h.box,zz008 h.size hb.size,h.bel.trans (hb.mono (by have:=h.size;omega))⟩
theorem Mo{f}{A}(h:∀j∈A,0<=f j)  k  :aG f (A.take k)<=aG f A:=by
 have e:aG f A=aG f (A.take k)+aG f (A.drop k):=by rw[<-na,gU]
 have:0<=aG f (A.drop k):=cW fun j hj=>h j (ku hj);omega
structure _j(w wr:World)(n lb lo ob oo B:Nat)(h:Nat->Int)(S:List Nat)(k:Nat):Prop where
 len:dh wr lb lo n (fun j=>if j∈S.take k then h j+1 else h j)
 open_:bp wr ob oo (dV S)
 bel:Below B w wr
theorem _j.next{w wr}{n lb lo ob oo B}{h}{S}{k}(H:_j w wr n lb lo ob oo B h S k)(hS:S.Nodup)(hk:k<S.length)  i  (hi:S[k]?.getD 0=i) (gA:i<n) (h1:lb≠ob) (kH:B<=lb):
 _j w (wr.setCell (az lb (lo+i)) (Iq (h i+1))) n lb lo ob oo B h S (k+1):=by
 have ht:=fQ S k hk;have W9:=gQ hS hk;rw[hi]at ht W9;have hm:∀j,j∈S.take (k+1)↔j∈S.take k\/j=i:=fun j=>by rw[ht];simp
 refine⟨?_,H.open_.other _ _ _ h1,H.bel.setCell kH _⟩;refine(H.len.set i (h i+1) gA).congr fun j hj=>?_;grind[qX]
theorem iV:(prog.info? 3).map (fun i=>(i.zero,i.size,i.bytes))=some (some (Iq 0),1,8):=by kernel_rfl
theorem Ct(n lb lo lc wb wo wc ob oo oc B nq:Nat)(Mn Mx Wt g:Nat->Int)(Q:List Nat)(L V:Int)(w:World)(hl:dh w lb lo n g)(hw:fg w wb wo n Mn Mx Wt)(ho:bp w ob oo (dV Q))
 (h1:lb≠ob) (h2:lb≠wb) (h3:wb≠ob) (kH:B<=lb) (oy:B<=ob) (Gc:B<=w.heap.size) (hQ:Q.Nodup) (hQn:∀j∈Q,j<n) (bZ:Q≠[]) (hnq:Q.length=nq) (zqq:nq<=1073741824) (hqc:nq<=oc) (hoc:oc<=maxLen)
 (hn:n<=1073741824) (hL:0<=L/\L<=1073741824) (hV:V=aG Wt Q) (WL:0<V/\V<=1152921504606846976) (hWt:∀j,0<=Wt j/\Wt j<=1073741824) (hg:∀j,0<=g j/\g j<=1073741824):
 Cw 228 #[.slice (some (az lb lo)) n lc,.slice (some (az wb wo)) n wc,.slice (some (az ob oo)) nq oc,Iq L,Iq V] w fun e w'=>e=Rw (.tuple #[])/\
  ∃(S:List Nat) (m:Nat),S.Perm Q/\S.Pairwise (fun i k=>L*Wt k %V<L*Wt i %V\/(L*Wt i %V=L*Wt k %V/\i<k))/\(m:Int)=L-aG (fun j=>L*Wt j/V) S/\
   dh w' lb lo n (fun j=>if j∈S then g j+L*Wt j/V+(if j∈S.take m then 1 else 0)else g j)/\Below B w w':=by
 have CS:=qH<|
  wE (dV Q) ob oo oc nq w ho (by grind[fM]) (by omega);have HL:=qH<|hl;have HW:=qH<|hw;have HQN:=qH<|hQn;have HQ:Hid Q.Nodup:=hQ;have HV:=qH<|hV;have HWT:=qH<|hWt;have HG:=qH<|hg;have X7:=qH<|hnq;have qQ:=hL.1;have hL2:=hL.2;have hV2:=WL.1;have _0:=WL.2;have UK:=hl.1;have hzw:=hw.1;have Xl:=ho.1;have iU:=run_make_row' (P:=prog) 61 3 (Iq 0) 8 underlying61 iV rfl .i64 .i64 n (by omega) (by omega);clear hl hw ho hQn hQ hV hWt hg hnq hL WL;go_enter func228,ntmps228;go_wp2_with fail;refine CS.mono ?_;rintro e w1 ⟨rfl,hr1,sw⟩;obtain⟨A,hA,hAp,hAs⟩:=EC HQ;rw[hA]at hr1;have fs:=sw.size;have HR1:=qH<|hr1;have Ta:=qH<|HL.grown sw h1;have J3:=qH<|HW.grown sw h3;have HB1:=qH<|(aj B w).grown sw Gc (fun q hq=>by grind);have HAp:=qH<|hAp;have HAs:=qH<|hAs;go_wp2;obtain⟨fb,rl⟩:=ag w1.heap.size;rw[rl];have D0:Hid (S4 w ((w1.alloc (.cells (madeCells #[Iq 0] n) 3)).alloc (.cells #[Sq fb n n] 61)) n lb lo wb wo ob oo B fb Mn Mx Wt g A L V 0):=by
  have b1:Bt w1 ((w1.alloc (.cells (madeCells #[Iq 0] n) 3)).alloc (.cells #[Sq fb n n] 61)):=((aj _ w1).alloc (ai _) _).alloc (by simp) _;refine⟨(Ta.below b1).congr fun j _=>by simp,?_,HR1.below b1,J3.below b1,?_,by simp;omega,HB1.trans (b1.mono (by omega))⟩
  ·refine⟨by simp;omega,fun j hj=>⟨?_,?_⟩⟩;·rw[World.cell?_alloc_past _ _ _ (by simp;omega),World.cell?_alloc_at _ _ _ _ rl.symm];simp[madeCells,hj,zn]
   ·rw[World.frozen?_alloc_past _ _ _ (by simp;omega),World.frozen?_alloc_at _ _ _ _ rl.symm]
  ·rw[World.cell?_alloc_at _ _ _ _ (by simp;omega)];rfl
 have hlb:lb<fb:=by omega
 have hwb:wb<fb:=by omega
 have BH:ob<fb:=by omega
 have M9:=qH<|HAp.length_eq.trans X7;have uq:Hid A.Nodup:=HAp.nodup_iff.2 HQ;have HVA:=qH<|HV.trans (nZ HAp.symm);have hBf:B<=fb:=by omega
 go_loopw[10,25] (fun ms i wr=>∃(k:Nat) (mi:Int),ms=Iq mi/\i=Iq k/\k<=nq/\0<=mi/\mi<=L/\Hid (mi=L-aG (fun j=>L*Wt j/V) (A.take k))/\Hid (S4 w wr n lb lo wb wo ob oo B fb Mn Mx Wt g A L V k)) (fun _ i _=>nq-(intOf i).toNat);case atStart=>exact⟨0,L,rfl,rfl,aZ _,by omega,by omega,by simp[Hid,aG],D0⟩
 case round=>
  obtain⟨k,mi,rfl,rfl,hk,og,hm2,HM,HD⟩:=hrel;by_cases hlt:k<nq
  ·have aN:(k:Int)<(nq:Int):=by omega
   have hd:=HD.out;have Gl:k<A.length:=by rw[M9.out];exact hlt
   obtain⟨i,hi⟩:=ag (A[k]?.getD 0);have gA:=HQN i (HAp.mem_iff.1 (by rw[<-hi];exact tZ Gl));obtain⟨x,hx⟩:=ag (Wt i);obtain⟨gi,BD⟩:=ag (g i);have xI:=HWT i;have nC:=HG i;rw[hx]at xI;rw[BD]at nC;have co:wr.cell? (az ob (oo+k))=some (Iq (i:Int)):=by rw[(hd.open_.2 k (by rw[fM];exact Gl)).1,ul Gl,hi]
   have cw:wr.cell? (az wb (wo+i*3+2))=some (Iq x):=by rw[(hd.want.2 i gA).2.2,hx]
   have rx:i∉A.take k:=by rw[<-hi];exact gQ uq Gl
   have Yt:wr.cell? (az lb (lo+i))=some (Iq gi):=by rw[(hd.len.2 i gA).1];dsimp only;rw[if_neg rx,BD]
   have fl1:=(hd.len.2 i gA).2;have cf1:wr.cell? (az fb i)=some (Iq 0):=by have:=(hd.frac.2 i gA).1;dsimp only at this;rw[if_neg rx,bM]at this;exact this
   have ff1:wr.frozen? (az fb i)=false:=by have:=(hd.frac.2 i gA).2;rw[bM]at this;exact this
   have cb:=hd.box;have f_:=hd.size;obtain⟨p,hp⟩:=ag (L*x);have I5:0<=p:=by rw[<-hp];exact jb qQ xI.1
   have Pj:p<=1152921504606846976:=by rw[<-hp];exact jl (nj hL2 xI.2 xI.1 (by omega)) (by decide)
   have sC:=xI.1;have nD:=xI.2;have sw:=nC.1;have kU:=nC.2;obtain⟨q,hq⟩:=ag (p/V);obtain⟨r,hr⟩:=ag (p %V);have Zj:0<=q:=by rw[<-hq];exact E' I5 (by omega)
   have tF:q<=p:=by rw[<-hq];exact Int.ediv_le_self _ I5
   have MQ:0<=r:=by rw[<-hr];exact E_ _ (by omega)
   have hr1:r<V:=by rw[<-hr];exact JJ _ hV2
   have UG:p.tdiv V=q:=by rw[xc I5,hq]
   have htm:p.tmod V=r:=by rw[R6 I5,hr]
   have Si:Hid (S4 w ((wr.setCell (az lb (lo+i)) (Iq (gi+q))).setCell (az fb (0+i)) (Iq r)) n lb lo wb wo ob oo B fb Mn Mx Wt g A L V (k+1)):=by have:=HD.next uq Gl i hi gA h1 h2 hlb BH hwb kH hBf;rw[BD,hx,hp,hq,hr]at this;exact this
   have HMx:Hid (mi-q=L-aG (fun j=>L*Wt j/V) (A.take (k+1))):=by show _=_;rw[fQ A k Gl,dR,hi];have:=HM.out;rw[hx,hp,hq];omega
   have hmq:0<=mi-q:=by rw[HMx.out];have t1:=Mo (f:=fun j=>L*Wt j/V) (A:=A) (fun j _=>E' (jb qQ (HWT j).1) (by omega)) (k+1);have t2:=(lE (L:=L) HVA hV2).1;omega
   have w1:IntKind.i64.wrap (gi+q)=gi+q:=IntWalk.i64_in _ ⟨by omega,by omega⟩;have w2:IntKind.i64.wrap q=q:=IntWalk.i64_in _ ⟨by omega,by omega⟩;have w3:IntKind.i64.wrap r=r:=IntWalk.i64_in _ ⟨by omega,by omega⟩;have w4:IntKind.i64.wrap p=p:=IntWalk.i64_in _ ⟨by omega,by omega⟩;have zo0:V≠0:=by omega
   clear hd xI nC rx hx BD hi HM HD;go_wp2_with fail;go_big_region;go_wp2_with fail;go_big_region;go_wp2;go_roundw;case rel=>refine⟨k+1,mi-q,rfl,by go_num,by omega,by omega,by omega,HMx,?_⟩;have:=Si.out;rw[bM]at this;exact this.below ⟨rfl,rfl,rfl,by simp,fun _ _=>rfl⟩ hBf
   case measure=>simp[intOf];omega
  ·have tD:¬(k:Int)<(nq:Int):=by omega
   obtain rfl:k=nq:=by omega
   have hd:=HD.out;have Xi:=gV (by rw[M9.out];omega);obtain⟨fr,Sy⟩:∃fr:Nat->Int,(fun j=>if j∈A.take k then L*Wt j %V else 0)=fr:=⟨_,rfl⟩;obtain⟨hh,SB⟩:∃hh:Nat->Int,(fun j=>if j∈A.take k then g j+L*Wt j/V else g j)=hh:=⟨_,rfl⟩;have bY:=hd.len;have O4:=hd.frac;rw[SB]at bY;rw[Sy]at O4;have hF:∀j,j<n->((List.range n).map fr)[j]?.getD 0=fr j:=fun j hj=>by simp[hj]
   have hFl:((List.range n).map fr).length=n:=by simp
   have hsA:=fun j hj=>HQN j (HAp.mem_iff.1 hj);have HS:Hid (Cw 241 #[.slice (some (az ob oo)) k oc,.func (.func 245) #[] #[Pq (fb+1)]] wr fun e w'=>e=Rw (.tuple #[])/\ly wr w' ob oo (yd (fun x=>((List.range n).map fr)[x.toNat]?.getD 0)) [] (dV A) []):=by
    refine m9 245 #[Pq (fb+1)] (enters_of func245 (by kernel_rfl) rfl) (fun i k=>kN (((List.range n).map fr)[k.toNat]?.getD 0) (((List.range n).map fr)[i.toNat]?.getD 0)) (dV A) (yd (fun x=>((List.range n).map fr)[x.toNat]?.getD 0)) (Qp _ _) wr ob oo oc ?_ (dV A) wr k (ee _ _) hd.open_ (fun x hx=>hx) (D4 HAs) (by rw[fM];exact M9) (by omega);refine Kq _ (fb+1) fb 0 n ob wr (by rw[hFl];exact hd.box) (fun j hj=>?_) _ ?_ (by omega) (by omega) (by omega);·rw[hFl]at hj;rw[hF j hj];exact(O4.2 j hj).1
    ·intro x hx;obtain⟨j,rfl,hj⟩:=qn hx;exact⟨j,rfl,by rw[hFl];exact hsA j hj⟩
   have zaK:Hid (∀w2,ly wr w2 ob oo (yd (fun x=>((List.range n).map fr)[x.toNat]?.getD 0)) [] (dV A) []->∃S:List Nat,S.Perm A/\S.Pairwise (fun i k=>L*Wt k %V<L*Wt i %V\/(L*Wt i %V=L*Wt k %V/\i<k))/\_j w w2 n lb lo ob oo B hh S 0/\wr.heap.size<=w2.heap.size):=by
    rintro w2 ⟨⟨M,hp,Dt,hr2⟩,fY⟩;obtain⟨S,rfl,hs⟩:=rK hp;refine⟨S,hs,?_,⟨?_,by simpa using hr2,?_⟩,fY.size⟩
    ·unfold dV at Dt;rw[RF]at Dt;refine List.Pairwise.imp_of_mem ?_ Dt;intro i j hi hj h;have hiA:=hs.mem_iff.1 hi;have hjA:=hs.mem_iff.1 hj;simp only[yd,lY,hF i (hsA i hiA),hF j (hsA j hjA)]at h;rw[<-Sy]at h;dsimp only at h;rw[Xi,if_pos hiA,if_pos hjA]at h;rcases h with h|⟨h,h'⟩;·exact .inl h
     ·exact .inr ⟨h,by omega⟩
    ·exact(bY.grown fY h1).congr fun j _=>by simp
    ·exact hd.bel.grown fY (by have:=hd.size;omega) (fun q hq=>by injection hq with hq;omega)
   obtain⟨m,hm⟩:∃m:Nat,mi=(m:Int):=⟨mi.toNat,by omega⟩;subst hm;have hmq:(m:Int)<(k:Int):=by have:=(lE (L:=L) HVA hV2).2;have e:=HM.out;rw[Xi]at e;rw[<-e,M9.out]at this;omega
   have Sg:Hid ((m:Int)=L-aG (fun j=>L*Wt j/V) A):=by have:=HM.out;rw[Xi]at this;exact this
   have HHH:Hid (∀j,hh j=if j∈A then g j+L*Wt j/V else g j):=fun j=>by rw[<-SB];dsimp only;rw[Xi]
   have hhb:Hid (∀j,0<=hh j/\hh j<=2305843009213693952):=fun j=>by rw[HHH j];have a1:=HG j;have a2:=HWT j;have a3:=jb qQ a2.1;have a4:L*Wt j<=1152921504606846976:=jl (nj hL2 a2.2 a2.1 (by omega)) (by decide);have a5:0<=L*Wt j/V:=E' a3 (by omega);have a6:L*Wt j/V<=L*Wt j:=Int.ediv_le_self _ a3;split<;>omega
   have f_:=hd.size;have hmc:(m:Int)<=(oc:Int):=by omega
   clear hd bY O4 SB Sy Xi hF hFl HM HD;go_wp2_with fail;refine HS.mono ?_;rintro e w2 ⟨rfl,hS⟩;obtain⟨S,hS1,hS2,hS3,hS4⟩:=zaK w2 hS;have _C:=qH<|hS1;have HSs:=qH<|hS2;have HE:=qH<|hS3;clear hS hS1 hS2 hS3 zaK HS;go_wp2;go_loopw[64] (fun i wr=>∃c:Nat,i=Iq c/\c<=m/\Hid (_j w wr n lb lo ob oo B hh S c)) (fun i _=>m-(intOf i).toNat);case atStart=>exact⟨0,rfl,aZ _,HE⟩
   case round=>
    obtain⟨c,rfl,hc,HEc⟩:=hrel;have hSl:=_C.length_eq.trans M9;by_cases hlt:c<m
    ·have aN:(c:Int)<(m:Int):=by omega
     have hd:=HEc.out;have hcS:c<S.length:=by omega
     obtain⟨i,hi⟩:=ag (S[c]?.getD 0);have gA:i<n:=by have:=tZ hcS;rw[hi]at this;exact HQN i (HAp.mem_iff.1 (_C.mem_iff.1 this))
     have zcE:(i:Int)<(n:Int):=by omega
     have hSn:=_C.nodup_iff.2 uq;have co:wr.cell? (az ob (oo+c))=some (Iq (i:Int)):=by rw[(hd.open_.2 c (by rw[fM];exact hcS)).1,ul hcS,hi]
     obtain⟨y,hy⟩:=ag (hh i);have hyb:=hhb i;rw[hy]at hyb;have hy1:=hyb.1;have SQ:=hyb.2;have rx:i∉S.take c:=by rw[<-hi];exact gQ hSn hcS
     have Yt:wr.cell? (az lb (lo+i))=some (Iq y):=by rw[(hd.len.2 i gA).1];dsimp only;rw[if_neg rx,hy]
     have fl1:=(hd.len.2 i gA).2;have Si:Hid (_j w (wr.setCell (az lb (lo+i)) (Iq (y+1))) n lb lo ob oo B hh S (c+1)):=by have:=hd.next hSn hcS i hi gA h1 kH;rw[hy]at this;exact this
     clear hd hyb rx hi hy hSn hSl HEc;go_wp2;go_roundw;case rel=>exact⟨c+1,by go_num,by omega,Si⟩
     case measure=>simp[intOf];omega
    ·have tD:¬(c:Int)<(m:Int):=by omega
     obtain rfl:c=m:=by omega
     have HZ:Hid (∃(S:List Nat) (m:Nat),S.Perm Q/\S.Pairwise (fun i k=>L*Wt k %V<L*Wt i %V\/(L*Wt i %V=L*Wt k %V/\i<k))/\(m:Int)=L-aG (fun j=>L*Wt j/V) S/\
      dh wr lb lo n (fun j=>if j∈S then g j+L*Wt j/V+(if j∈S.take m then 1 else 0)else g j)/\Below B w wr):=by
      refine⟨S,c,_C.trans HAp,HSs,Sg.trans (by rw[nZ _C.out]),HEc.len.congr fun j hj=>?_,HEc.bel⟩;have _7:=HHH j;have hmem:j∈S↔j∈A:=_C.mem_iff;by_cases e:j∈S;·rw[if_pos (hmem.1 e)]at _7;rw[if_pos e,_7];split<;>omega
      ·rw[if_neg (fun h=>e (hmem.2 h))]at _7;rw[if_neg e,if_neg (fun h=>e (lm h)),_7]
     clear hSl HEc;go_wp2;go_end0;obtain⟨S',m',z1,z2,z3,z4,z5⟩:=HZ.out;exact⟨rfl,S',z1,z2,m',z3,z4,z5⟩
structure Tu(w wr:World)(n lb lo wb wo g B:Nat)(Mn Mx Wt:Nat->Int)(Q:List Nat)(c:Nat):Prop where
 len:dh wr lb lo n (fun j=>if j∈Q.take c then Mx j else Mn j)
 want:fg wr wb wo n Mn Mx Wt
 open_:bp wr g 0 (dV Q)
 bel:Below B w wr
theorem Tu.below{w W W'}{n lb lo wb wo g B}{Mn Mx Wt}{Q}{c}(h:Tu w W n lb lo wb wo g B Mn Mx Wt Q c)(hb:Bt W W')(hB:B<=w.heap.size):Tu w W' n lb lo wb wo g B Mn Mx Wt Q c:=
 ⟨h.len.below hb,h.want.below hb,h.open_.below hb,h.bel.trans (hb.mono (aO hB h.bel.size))⟩
theorem Tu.next{w wr}{n lb lo wb wo g B}{Mn Mx Wt}{Q}{c}(H:Tu w wr n lb lo wb wo g B Mn Mx Wt Q c)(hQ:Q.Nodup)(hk:c<Q.length)  i  (hi:Q[c]?.getD 0=i) (gA:i<n) (h1:lb≠g) (h2:lb≠wb) (kH:B<=lb):
 Tu w (wr.setCell (az lb (lo+i)) (Iq (Mx i))) n lb lo wb wo g B Mn Mx Wt Q (c+1):=by
 have ht:=fQ Q c hk;have W9:=gQ hQ hk;rw[hi]at ht W9;have hm:∀j,j∈Q.take (c+1)↔j∈Q.take c\/j=i:=fun j=>by rw[ht];simp
 refine⟨?_,H.want.other _ _ _ h2,H.open_.other _ _ _ h1,H.bel.setCell kH _⟩;refine(H.len.set i (Mx i) gA).congr fun j hj=>?_;grind[qX]
structure tn(Mn Mx Wt:Nat->Int)(Q:List Nat)(L0:Int)(c:Nat)(L V:Int):Prop where
 left:L=L0-aG (fun j=>Mx j-Mn j) (Q.take c)
 pos:0<=L
 weight:V=aG Wt (Q.drop c)
 full:∀j∈Q.take c,(Mx j-Mn j)*V<=L*Wt j
theorem oT(A:List Nat)  k  (hk:k<A.length):A.drop k=(A[k]?.getD 0)::A.drop (k+1):=by simp_all
theorem EE{R}{Q:List Nat}(h:Q.Pairwise R){c}(hc:c<Q.length):(∀j∈Q.take c,R j (Q[c]?.getD 0))/\(∀k∈Q.drop (c+1),R (Q[c]?.getD 0) k):=by
 have e:Q=Q.take c++((Q[c]?.getD 0)::Q.drop (c+1)):=by rw[<-oT Q c hc,gU]
 have h':(Q.take c++((Q[c]?.getD 0)::Q.drop (c+1))).Pairwise R:=by rw[<-e];exact h
 rw[lj]at h';refine⟨fun j hj=>h'.2.2 j hj _ (by simp),?_⟩;exact(R9.1 h'.2.1).1
theorem tn.next{Mn Mx Wt}{Q}{L0}{c}{L V}(h:tn Mn Mx Wt Q L0 c L V)(hm:∀j,0<=Mx j-Mn j)(hs:Q.Pairwise (RFl Mn Mx Wt))(hw:∀j∈Q,0<Wt j)(hc:c<Q.length)  i  (hi:Q[c]?.getD 0=i) (hle:(Mx i-Mn i)*V<=L*Wt i):tn Mn Mx Wt Q L0 (c+1) (L-(Mx i-Mn i)) (V-Wt i):=by
 have h1:=EE hs hc;rw[hi]at h1;have hd:=oT Q c hc;rw[hi]at hd;have ht:=fQ Q c hc;rw[hi]at ht;have UI:=hw i (by grind);have hV:V=aG Wt (i::Q.drop (c+1)):=by rw[<-hd];exact h.weight
 have:=KS (A:=Q.take c) (B:=Q.drop (c+1)) (i:=i) (L:=L) (W:=V) hm (fun j hj=>⟨hw j (lm hj),h1.1 j hj⟩) UI (fun j hj=>hw j (ku hj)) hV hle;refine⟨?_,this.1,?_,?_⟩;·have e:=h.left;grind[dR]
 all_goals grind[cm]
theorem tn.stop{Mn Mx Wt}{Q}{L0}{c}{L V}(h:tn Mn Mx Wt Q L0 c L V)(hs:Q.Pairwise (RFl Mn Mx Wt))(hw:∀j∈Q,0<Wt j)(hc:c<Q.length)  i  (hi:Q[c]?.getD 0=i) (Di:L*Wt i<(Mx i-Mn i)*V):0<V/\∀k∈Q.drop c,L*Wt k<(Mx k-Mn k)*V:=by
 have h1:=EE hs hc;rw[hi]at h1;have hd:=oT Q c hc;rw[hi]at hd;have UI:=hw i (by grind);have hV:V=Wt i+aG Wt (Q.drop (c+1)):=by rw[<-cm,<-hd];exact h.weight
 have h0:0<=aG Wt (Q.drop (c+1)):=cW fun j hj=>JH (hw j (ku hj));refine⟨by omega,?_⟩;rw[hd];exact LG UI (by omega) (fun k hk=>⟨hw k (ku hk),h1.2 k hk⟩) Di
theorem tn.poured_all{Mn Mx Wt}{Q}{n}{r L V}(h:tn Mn Mx Wt Q (r-aG Mn (List.range n)) Q.length L V)(hp:Q.Perm (dJ Wt n)):cD n Mn Mx Wt r (fun j=>if j∈Q then Mx j else Mn j) Q [] L V 0:=by
 have e:Q.take Q.length=Q:=l5;refine⟨by rw[lZ];exact hp,?_,h.pos,by have:=h.weight;grind,by have:=h.full;rwa[e]at this,by simp,fun h=>(h rfl).elim,fun _=>rfl,List.Pairwise.nil,fun j hj=>?_⟩;·have:=h.left;grind
 grind
theorem tn.poured_some{Mn Mx Wt}{Q}{n c}{r L V}(h:tn Mn Mx Wt Q (r-aG Mn (List.range n)) c L V)(hp:Q.Perm (dJ Wt n))  S  (m:Nat) (hS:S.Perm (Q.drop c)) (ho:∀k∈Q.drop c,L*Wt k<(Mx k-Mn k)*V) (bZ:Q.drop c≠[]) (hm:(m:Int)=L-aG (fun j=>L*Wt j/V) S)
 (hs:S.Pairwise (fun i k=>L*Wt k %V<L*Wt i %V\/(L*Wt i %V=L*Wt k %V/\i<k))):
 cD n Mn Mx Wt r (fun j=>if j∈S then(if j∈Q.take c then Mx j else Mn j)+L*Wt j/V+(if j∈S.take m then 1 else 0)else(if j∈Q.take c then Mx j else Mn j)) (Q.take c) S L V m:=by
 have hpp:(Q.take c++S).Perm Q:=by
  conv=>rhs;rw[<-List.take_append_drop c Q]
  exact List.Perm.append_left _ hS
 have jc:=hp.nodup_iff.2 (zi.filter _);have zpm:∀j∈Q.take c,j∉S:=fun j h1 h2=>by grind
 refine⟨hpp.trans hp,h.left,h.pos,h.weight.trans (nZ hS.symm),h.full,fun j hj=>ho j (hS.mem_iff.1 hj),fun _=>hm,fun e=>(bZ (by simp_all)).elim,hs,fun j hj=>?_⟩;grind
def pI(w w':World)(n lb lo B:Nat)(Mn Mx Wt:Nat->Int)(r:Int):Prop:=
 ∃(a:Nat->Int) (A S:List Nat) (L V:Int) (m:Nat),cD n Mn Mx Wt r a A S L V m/\dh w' lb lo n a/\Below B w w'
def VE:Value->Nat
 |.slice _ n _=>n
 |_=>0
theorem Qz(n lb lo lc wb wo wc B:Nat)(Mn Mx Wt:Nat->Int)(r L0:Int)(w:World)(hl:dh w lb lo n Mn)(hw:fg w wb wo n Mn Mx Wt)(h2:lb≠wb)(kH:B<=lb)(Gc:B<=w.heap.size)(hn:n<=1048576)
    (hM:∀j,0<=Mn j/\Mn j<=Mx j/\Mx j<=1048576/\0<=Wt j/\Wt j<=1048576) (hL:L0=r-aG Mn (List.range n)) (hL0:0<=L0/\L0<=1073741824):
    Cw 206 #[.slice (some (az lb lo)) n lc,.slice (some (az wb wo)) n wc,Iq L0] w fun e w'=>e=Rw (.tuple #[])/\pI w w' n lb lo B Mn Mx Wt r:=by
  have CO:=qH<|
    LM n wb wo wc Mn Mx Wt w hw (fun j=>by grind) (by omega);have HL:=qH<|hl;have HW:=qH<|hw;have HM:=qH<|hM;have HLe:=qH<|hL;have UK:=hl.1;have hzw:=hw.1;have qQ:=hL0.1;have hL2:=hL0.2;clear hl hw hM hL hL0;go_enter func206,ntmps206;go_wp2_with fail;refine CO.mono ?_;rintro e w1 ⟨v,Q,rfl,hO,hp,hs,hb⟩;have HP:=qH<|hp;have HS:=qH<|hs;have Ta:=qH<|HL.below hb;have J3:=qH<|HW.below hb;have HB1:=qH<|hb.mono Gc;have HQn:Hid (∀j∈Q,j<n/\0<Wt j):=fun j hj=>rk (hp.mem_iff.1 hj);have HQd:Hid Q.Nodup:=hp.nodup_iff.2 (zi.filter _);rcases hO with⟨hq,rfl⟩|⟨bZ,g,cp,rfl,hgB,hqc,hcm,hro⟩
  · have HZ:Hid (pI w w1 n lb lo B Mn Mx Wt r):=by
      refine⟨_,Q,[],L0,0,0,tn.poured_all ⟨?_,qQ,?_,?_⟩ HP,Ta.congr fun j _=>by simp[hq],HB1⟩;·rw[hq];simp[aG];exact HLe
      ·rw[hq];rfl
      ·rw[hq];simp
    go_wp2;go_loop[7,16] (fun t i=>t=Iq 0/\i=Iq 0) (fun _ _=>0);case atStart=>grind
    case round=>
      obtain⟨rfl,rfl⟩:=hrel;go_wp2;go_loop[2,6,7] (fun t o v=>t=Iq L0/\o=.slice none 0 0/\v=Iq 0) (fun _ _ _=>0);case atStart=>grind
      case round=>obtain⟨rfl,rfl,rfl⟩:=hrel;go_wp2;go_end0;exact⟨rfl,HZ⟩
  · obtain⟨nq,hnq⟩:=ag Q.length;have X7:=qH<|hnq;have X_:=qH<|hro;have hqn:nq<=n:=by have:=HP.length_eq;have:=rj Wt n;omega
    rw[hnq]at hqc⊢;have Zc:lb≠g:=by omega
    have hwg:wb≠g:=by omega
    have T7:B<=g:=by omega
    go_wp2;go_loop[7,16] (fun t i=>∃(k:Nat) (s:Int),t=Iq s/\i=Iq k/\k<=nq/\0<=s/\s<=(k:Int)*1048576/\Hid (s=aG Wt (Q.take k))) (fun _ i=>nq-(intOf i).toNat);case atStart=>exact⟨0,0,rfl,rfl,aZ _,by omega,by omega,by simp[Hid,aG]⟩
    case round=>
      obtain⟨k,s,rfl,rfl,hk,FC,hs1,Wj⟩:=hrel;by_cases hlt:k<nq
      · have aN:(k:Int)<(nq:Int):=by omega
        have hkQ:k<Q.length:=by rw[X7.out];exact hlt
        obtain⟨i,hi⟩:=ag (Q[k]?.getD 0);have gA:=(HQn i (by grind)).1;obtain⟨x,hx⟩:=ag (Wt i);have xI:=HM i;rw[hx]at xI;have sC:=xI.2.2.2.1;have nD:=xI.2.2.2.2;have co:w1.cell? (az g k)=some (Iq (i:Int)):=by have:=(X_.2 k (by grind[fM])).1;rw[ul hkQ,hi,bM]at this;exact this
        have cw:w1.cell? (az wb (wo+i*3+2))=some (Iq x):=by rw[(J3.2 i gA).2.2,hx]
        have HSx:Hid (s+x=aG Wt (Q.take (k+1))):=by show _=_;rw[fQ Q k hkQ,dR,hi,hx,Wj.out]
        have Ag:((k+1:Nat):Int)*1048576=(k:Int)*1048576+1048576:=by omega
        clear xI hi hx Wj;go_wp2;go_round;case rel=>exact⟨k+1,s+x,rfl,by go_num,by omega,by omega,by omega,HSx⟩
        grind[intOf]
      · have tD:¬(k:Int)<(nq:Int):=by omega
        obtain rfl:nq=k:=by omega
        have N0:Hid (tn Mn Mx Wt Q (r-aG Mn (List.range n)) 0 L0 s):=by refine⟨by simp[aG];exact HLe,qQ,?_,by simp⟩;rw[Wj.out,gV (by omega),RJ]
        have P0:Hid (Tu w w1 n lb lo wb wo g B Mn Mx Wt Q 0):=⟨Ta.congr fun j _=>by simp,J3,X_,HB1⟩;clear Wj Ta J3 X_ HB1;go_wp2;have zlP:(nq:Int)*1048576<=1099511627776:=by omega
        go_loopw[2,6,7] (fun l o v wr=>∃(c:Nat) (L V:Int) (p:Option Addr) (d e:Nat),l=Iq L/\o=.slice p d e/\v=Iq V/\c+d=nq/\c+e=cp/\0<=L/\L<=L0/\0<=V/\V<=1099511627776/\Hid (0<d->p=some (az g c))/\Hid (tn Mn Mx Wt Q (r-aG Mn (List.range n)) c L V)/\Hid (Tu w wr n lb lo wb wo g B Mn Mx Wt Q c)) (fun _ o _ _=>VE o);case atStart=>grind
        case round=>
          obtain⟨c,L,V,p,d,e,rfl,rfl,rfl,WS,K1,hL3,hL4,_0,hV4,HPp,HN,_w⟩:=hrel;by_cases hd:0<d
          · have hd':(0:Int)<(d:Int):=by omega
            obtain rfl:=HPp hd;have Gt:=_w.out;have YY:c<Q.length:=by rw[X7.out];omega
            obtain⟨i,hi⟩:=ag (Q[c]?.getD 0);have hiQ:i∈Q:=by rw[<-hi];exact tZ YY
            have gA:=(HQn i hiQ).1;have zcE:(i:Int)<(n:Int):=by omega
            obtain⟨x,hx⟩:=ag (Wt i);obtain⟨mn,Dn⟩:=ag (Mn i);obtain⟨mx,qT⟩:=ag (Mx i);have xI:=HM i;rw[hx,Dn,qT]at xI;obtain⟨hb1,hb2,qR,MI,rh⟩:=xI;have co:wr.cell? (az g c)=some (Iq (i:Int)):=by have:=(Gt.open_.2 c (by rw[fM];exact YY)).1;rw[ul YY,hi,bM]at this;exact this
            have cw0:wr.cell? (az wb (wo+i*3))=some (Iq mn):=by rw[(Gt.want.2 i gA).1,Dn]
            have cw1:wr.cell? (az wb (wo+i*3+1))=some (Iq mx):=by rw[(Gt.want.2 i gA).2.1,qT]
            have cw2:wr.cell? (az wb (wo+i*3+2))=some (Iq x):=by rw[(Gt.want.2 i gA).2.2,hx]
            have rx:i∉Q.take c:=by rw[<-hi];exact gQ HQd YY
            have Yt:wr.cell? (az lb (lo+i))=some (Iq mn):=by rw[(Gt.len.2 i gA).1];dsimp only;rw[if_neg rx,Dn]
            have fl1:=(Gt.len.2 i gA).2;obtain⟨df,hdf⟩:=ag (mx-mn);have zhR:0<=df:=by omega
            have zhS:df<=1048576:=by omega
            obtain⟨pv,hpv⟩:=ag (df*V);have zqm:0<=pv:=by rw[<-hpv];exact jb zhR _0
            have zqn:pv<=1152921504606846976:=by rw[<-hpv];exact jl (nj zhS hV4 _0 (by omega)) (by decide)
            obtain⟨lx,hlx⟩:=ag (L*x);have zpU:0<=lx:=by rw[<-hlx];exact jb hL3 MI
            have zpV:lx<=1125899906842624:=by rw[<-hlx];exact jl (nj (show L<=1073741824 by omega) rh MI (by omega)) (by decide)
            have wdf:IntKind.i64.wrap df=df:=IntWalk.i64_in _ ⟨by omega,by omega⟩;by_cases Di:lx<pv
            · have hst:=HN.stop HS (fun j hj=>(HQn j hj).2) YY i hi (by rw[hx,qT,Dn,hdf,hpv,hlx];exact Di);have hV0:=hst.1;have YK:=Gt.below (W':=wr.drew) ⟨rfl,rfl,rfl,ai _,fun _ _=>rfl⟩ Gc;have Y2:(Q.drop c).length=d:=by rw[dq,X7.out];omega
              have CD:Hid (Cw 228 #[.slice (some (az lb lo)) n lc,.slice (some (az wb wo)) n wc,.slice (some (az g c)) d e,Iq L,Iq V] wr.drew fun e w'=>e=Rw (.tuple #[])/\
                  ∃(S:List Nat) (m:Nat),S.Perm (Q.drop c)/\S.Pairwise (fun i k=>L*Wt k %V<L*Wt i %V\/(L*Wt i %V=L*Wt k %V/\i<k))/\(m:Int)=L-aG (fun j=>L*Wt j/V) S/\
                    dh w' lb lo n (fun j=>if j∈S then(if j∈Q.take c then Mx j else Mn j)+L*Wt j/V+(if j∈S.take m then 1 else 0)else(if j∈Q.take c then Mx j else Mn j))/\Below B wr.drew w'):=by
                refine Ct n lb lo lc wb wo wc g c e B d Mn Mx Wt _ (Q.drop c) L V wr.drew YK.len YK.want ?_ Zc h2 hwg kH T7 (aO Gc YK.bel.size) (HQd.sublist (List.drop_sublist _ _)) (fun j hj=>(HQn j (ku hj)).1) (by intro h;rw[h]at Y2;simp at Y2;omega) Y2 (by omega) (by omega) (by omega) (by omega) ⟨hL3,by omega⟩ HN.weight ⟨hV0,by omega⟩ (fun j=>by have:=HM j;omega) (fun j=>by have:=HM j;split<;>omega);refine⟨YK.open_.1,fun j hj=>?_⟩;rw[fM,Y2]at hj;have h1:=YK.open_.2 (c+j) (by rw[fM,X7.out];omega);rw[bM]at h1;refine⟨h1.1.trans ?_,h1.2⟩;have e1:dV (Q.drop c)=(dV Q).drop c:=by unfold dV;rw[List.map_drop]
                rw[e1,Fc]
              have HZ:Hid (∀w2,(∃(S:List Nat) (m:Nat),S.Perm (Q.drop c)/\S.Pairwise (fun i k=>L*Wt k %V<L*Wt i %V\/(L*Wt i %V=L*Wt k %V/\i<k))/\(m:Int)=L-aG (fun j=>L*Wt j/V) S/\
                    dh w2 lb lo n (fun j=>if j∈S then(if j∈Q.take c then Mx j else Mn j)+L*Wt j/V+(if j∈S.take m then 1 else 0)else(if j∈Q.take c then Mx j else Mn j))/\Below B wr.drew w2)->pI w w2 n lb lo B Mn Mx Wt r):=by rintro w2 ⟨S,m,q1,q2,q3,q4,q5⟩;exact⟨_,Q.take c,S,L,V,m,HN.poured_some HP S m q1 hst.2 (by intro h;rw[h]at Y2;simp at Y2;omega) q3 q2,q4,YK.bel.trans q5⟩
              clear hst YK Y2 Gt rx hi hx Dn qT HN _w;go_wp2_with fail;go_big_region;go_wp2_with fail;refine CD.mono ?_;rintro e2 w2 ⟨rfl,hq⟩;have HF:=qH<|HZ w2 hq;clear hq HZ;go_wp2;go_end0;exact⟨rfl,HF⟩
            · have hNx:=HN.next (fun j=>by have:=HM j;omega) HS (fun j hj=>(HQn j hj).2) YY i hi (by rw[hx,qT,Dn,hdf,hpv,hlx];omega);rw[hx,qT,Dn,hdf]at hNx;have Si:=qH<|hNx;have hLd:=hNx.pos;have hVx:0<=V-x:=by rw[hNx.weight];exact cW fun j _=>(HM j).2.2.2.1
              have HPx:Hid (Tu w (wr.setCell (az lb (lo+i)) (Iq (mn+df))) n lb lo wb wo g B Mn Mx Wt Q (c+1)):=by
                have:=Gt.next HQd YY i hi gA Zc h2 kH;rw[qT]at this;have e:mn+df=mx:=by omega
                rw[e];exact this
              have zpv:¬pv>lx:=by omega
              have WT:(1:Int)<=(e:Int):=by omega
              have Un:(1:Int)<=(d:Int):=by omega
              clear hNx Gt rx hi hx Dn qT HN _w;go_wp2_with fail;go_big_region;go_wp2_with fail;refine⟨⟨c+1,L-df,V-x,_,d-1,e-1,rfl,rfl,rfl,by omega,by omega,hLd,by omega,hVx,by omega,?_,Si,?_⟩,?_⟩;·intro h;rw[if_neg (by omega)]
              ·exact HPx.below ⟨rfl,rfl,rfl,ai _,fun _ _=>rfl⟩ Gc
              ·show d-1<d;omega
          · obtain rfl:d=0:=by omega
            have hcl:c=Q.length:=by rw[X7.out];omega
            have HF:Hid (pI w wr n lb lo B Mn Mx Wt r):=by have h1:=HN.out;have h2:=_w.len;rw[hcl]at h1 h2;exact⟨_,Q,[],L,V,0,h1.poured_all HP,h2.congr fun j _=>by rw[l5],_w.bel⟩
            clear hcl HN _w;go_wp2;go_end0;exact⟨rfl,HF⟩
def rm(aY cj:Int)(n:Nat):Int:=max 0 (cl aY-cl cj*((n:Int)-1))
theorem yU  aY cj   n  :0<=rm aY cj n:=by grind[rm]
theorem QL  aY cj   n  (hn:0<n):rm aY cj n<=100000:=by have h1:=dU aY;have h2:0<=cl cj*((n:Int)-1):=jb (dU cj).1 (by omega);grind[rm]
structure tk(n:Nat)(mn:Nat->Int)(r:Int)(g:Nat->Int):Prop where
 bd:∀j,j<n->0<=g j/\g j<=mn j
 sum:aG g (List.range n)=r
 behind:∀i k,i<k->k<n->g i<mn i->g k=0
def cO(n:Nat)(mn mx wt:Nat->Int)(r:Int)(g:Nat->Int):Prop:=
 (r<aG mn (List.range n)/\tk n mn r g)\/(aG mn (List.range n)<=r/\∃(A S:List Nat) (L V:Int) (m:Nat),cD n mn mx wt r g A S L V m)
theorem QG  n  (f:Nat->Int)  j  (hj:j<n):((List.range n).map f)[j]?.getD 0=f j:=by simp[hj]
theorem ph  n  (f:Nat->Int):((List.range n).map f).length=n:=by simp
theorem dh.irow{W}{blk off n}{g}(h:dh W blk off n g):bp W blk off ((List.range n).map g):=
 ⟨h.1,fun j hj=>by rw[ph]at hj;rw[QG n g j hj];exact h.2 j hj⟩
theorem bp.frow{W}{blk off n}{d}(h:bp W blk off d)(hn:d.length=n):dh W blk off n (fun j=>d[j]?.getD 0):=
 ⟨h.1,fun j hj=>h.2 j (by omega)⟩
theorem Mp(d:List Int):aG (fun j=>d[j]?.getD 0) (List.range d.length)=d.sum:=by unfold aG;congr 1;refine List.ext_getElem (by simp) fun j h1 h2=>?_;grind
theorem TC  n   mn  (hm:∀j,0<=mn j)  r rG  (hr:0<=r) (h:rG=aG mn (List.range n)-r) (h0:0<=rG):tk n mn r (fun j=>(gb ((List.range n).map mn) n rG [])[j]?.getD 0)/\(gb ((List.range n).map mn) n rG []).length=n:=by have hl:=ph n mn;have hs:((List.range n).map mn).sum=aG mn (List.range n):=rfl;have ht:((List.range n).map mn).take n=(List.range n).map mn:=gV (by omega);obtain⟨X,e,xl,xb,xs,xk,_⟩:=C7 ((List.range n).map mn) (fun i hi=>by grind) n rG [] (by omega) h0 (by grind);rw[lZ]at e;rw[e];refine⟨⟨fun j hj=>?_,?_,fun i k SE hk hlt=>?_⟩,xl⟩;all_goals grind[QG,Mp]
def tX(w w':World)(lb n:Nat)(mn mx wt:Nat->Int)(r:Int):Prop:=w.heap.size<=lb/\(∃g,dh w' lb 0 n g/\cO n mn mx wt r g)/\Bt w w'
theorem H7(p:Option Addr)(n cap:Nat)(aY cj:Int)(w:World)(hn:n=0\/200<n)(Ld:n<=5864062014805):
 Cw 169 #[Iq aY,Iq cj,.slice p n cap] w fun e w'=>e=Rw (.slice none 0 0)/\w'=w:=by
 rcases hn with rfl|hn;·go_enter func169,ntmps169;go_wp2;go_ret;simp_all
 ·have h1:(200:Int)<(n:Int):=by omega
  have h2:(n:Int)≠0:=by omega
  go_enter func169,ntmps169;go_wp2;go_ret;simp_all
structure NH(w wr:World)(cw lb n k:Nat)(mn mx wt:Nat->Int):Prop where
 len:dh wr lb 0 n (fun j=>if j<k then mn j else 0)
 want:fg wr cw 0 n mn mx wt
 bel:Bt w wr
theorem NH.next{w wr}{cw lb n k}{mn mx wt}(h:NH w wr cw lb n k mn mx wt)(hk:k<n)(bZ:lb≠cw)(hB:w.heap.size<=lb)  o  :NH w ((wr.setCell (az lb (0+k)) (Iq (mn k))).alloc o) cw lb n (k+1) mn mx wt:=by
 have hb:Below (wr.setCell (az lb (0+k)) (Iq (mn k))).heap.size (wr.setCell (az lb (0+k)) (Iq (mn k))) ((wr.setCell (az lb (0+k)) (Iq (mn k))).alloc o):=(aj _ _).alloc (ai _) _;refine⟨((h.len.set k (mn k) hk).below hb).congr fun j hj=>?_,(h.want.other _ _ _ bZ).below hb,(h.bel.setCell hB _).trans (hb.mono ?_)⟩;·grind[qX]
 ·have:=h.bel.size;simp_all
theorem Mk(n blk off cap:Nat)(a b c:Nat->Int)(aY cj:Int)(w:World)(h:fg w blk off n a b c)(Do:0<n)(hn:n<=200):
 Cw 169 #[Iq aY,Iq cj,.slice (some (az blk off)) n cap] w fun e w'=>∃lb,e=Rw (Sq lb n n)/\tX w w' lb n (fun j=>cl (a j)) (fun j=>eO (a j) (b j)) (fun j=>cl (c j)) (rm aY cj n):=by
 have CW:=qH<|clampedWants_any n blk off cap a b c w h (by omega);have CC:=qH<|shClamped_any;obtain⟨mn,Dn⟩:∃f:Nat->Int,(fun j=>cl (a j))=f:=⟨_,rfl⟩;obtain⟨mx,qT⟩:∃f:Nat->Int,(fun j=>eO (a j) (b j))=f:=⟨_,rfl⟩;obtain⟨wt,hwt⟩:∃f:Nat->Int,(fun j=>cl (c j))=f:=⟨_,rfl⟩;have HM:Hid (∀j,0<=mn j/\mn j<=mx j/\mx j<=100000/\0<=wt j/\wt j<=100000):=fun j=>by rw[<-Dn,<-qT,<-hwt];simp_all[dU,iP]
 rw[Dn,qT,hwt]at CW⊢;obtain⟨r,hr⟩:=ag (rm aY cj n);have MQ:=yU aY cj n;have hr1:=QL aY cj n Do;rw[hr]at MQ hr1⊢;unfold rm at hr;obtain⟨cr,xf⟩:=ag (cl aY);obtain⟨cg,yy⟩:=ag (cl cj);have Um:=dU aY;have K2:=dU cj;have C1:=qH<|fun w=>by have:=CC aY w;rw[xf]at this;exact this
 have C2:=qH<|fun w=>by have:=CC cj w;rw[yy]at this;exact this
 rw[xf]at hr Um;rw[yy]at hr K2;obtain⟨pr,MO⟩:=ag (cg*((n:Int)-1));have zqk:0<=pr:=by rw[<-MO];exact jb K2.1 (by omega)
 have zql:pr<=20000000:=by rw[<-MO];exact jl (nj K2.2 (show(n:Int)-1<=200 by omega) (by omega) (by omega)) (by decide)
 rw[MO]at hr;have hc1:=Um.1;have Uj:=Um.2;have hc3:=K2.1;have hc4:=K2.2;have iU:=run_make_row' (P:=prog) 61 3 (Iq 0) 8 underlying61 iV rfl .i64 .i64 n (by omega) (by omega);have xi:¬(n:Int)=0:=by omega
 have Ld:¬(200:Int)<(n:Int):=by omega
 have hn3:((n:Int)==0)=false:=by simpa using xi
 clear h Dn qT hwt xf yy Um K2 CC;go_enter func169,ntmps169;go_wp2_with(first|(go_at_call 203;refine CW.mono ?_;rintro e w1 ⟨rfl,q1,q2⟩;fail)|(go_at_call 204;refine(C1 _).mono ?_;rintro e w5 ⟨rfl,rfl⟩)|(go_at_call 204;refine(C2 _).mono ?_;rintro e w5 ⟨rfl,rfl⟩));refine CW.mono ?_;rintro e w1 ⟨rfl,q1,q2⟩;have J3:=qH<|q1;have HB1:=qH<|q2;have fs:=q1.1;clear q1 q2 CW;go_wp2_with(first|(go_at_call 204;refine(C1 _).mono ?_;rintro e w5 ⟨rfl,rfl⟩)|(go_at_call 204;refine(C2 _).mono ?_;rintro e w5 ⟨rfl,rfl⟩));obtain⟨lb,hlb⟩:=ag w1.heap.size;rw[hlb];have S0:Hid (NH w (w1.alloc (.cells (madeCells #[Iq 0] n) 3)) w.heap.size lb n 0 mn mx wt):=by
  have b1:Bt w1 (w1.alloc (.cells (madeCells #[Iq 0] n) 3)):=(aj _ w1).alloc (ai _) _;refine⟨⟨by simp;omega,fun j hj=>⟨?_,?_⟩⟩,J3.below b1,HB1.trans (b1.mono (by omega))⟩;·rw[World.cell?_alloc_at _ _ _ _ hlb.symm];simp[madeCells,hj,zn]
  ·rw[World.frozen?_alloc_at _ _ _ _ hlb.symm]
 have hlw:w.heap.size<lb:=by omega
 have Wj:Hid (∀k,aG mn (List.range (k+1))=aG mn (List.range k)+mn k):=fun k=>by rw[l',dR]
 have HSb:Hid (∀k,0<=aG mn (List.range k)/\aG mn (List.range k)<=(k:Int)*100000):=fun k=>by
  refine⟨cW fun j _=>(HM j).1,?_⟩;have:=fP (f:=mn) (l:=List.range k) (b:=100000) fun j _=>by have:=HM j;omega
  rw[JK]at this;exact this
 clear J3 HB1 hlb iU;go_loopw[8,36] (fun l i wr=>∃(k:Nat) (x:Int),l=Iq x/\i=Iq k/\k<=n/\-20000000<=x/\x<=r/\Hid (x=r-aG mn (List.range k))/\Hid (NH w wr w.heap.size lb n k mn mx wt)) (fun _ i _=>n-(intOf i).toNat);case atStart=>exact⟨0,r,rfl,rfl,aZ _,by omega,by omega,by simp[Hid,aG],S0⟩
 case round=>
  obtain⟨k,x,rfl,rfl,hk,BM,sC,HX,HS⟩:=hrel;by_cases hlt:k<n
  ·have aN:(k:Int)<(n:Int):=by omega
   have hs:=HS.out;have I7:=HSb (k+1);have Zk:=Wj k;have _2:=hs.want.2 k hlt;rw[bM]at _2;obtain⟨a1,ha1⟩:=ag (mn k);obtain⟨a2,ha2⟩:=ag (mx k);obtain⟨a3,ha3⟩:=ag (wt k);have iU:=HM k;rw[ha1]at Zk;rw[ha1,ha2]at iU;rw[ha1,ha2,ha3]at _2;obtain⟨cw0,cw1,cw2⟩:=_2;have hzc:=hs.want.1;have UK:=hs.len.1;have Yt:wr.cell? (az lb k)=some (Iq 0):=by have:=(hs.len.2 k hlt).1;dsimp only at this;rw[if_neg (by omega),bM]at this;exact this
   have fl1:wr.frozen? (az lb k)=false:=by have:=(hs.len.2 k hlt).2;rw[bM]at this;exact this
   have Bq:Hid (x-a1=r-aG mn (List.range (k+1))):=by show _=_;rw[Zk,HX.out];omega
   have nD:-20000000<=x-a1:=by rw[Bq.out];have:=I7.2;omega
   have HN:=qH<|fun o=>by have:=hs.next hlt (by omega) (by omega) o;rw[ha1,bM]at this;exact this
   have og:=iU.1;have hm2:=iU.2.1;have La:=iU.2.2.1;clear hs I7 Zk ha1 ha2 ha3 iU HX HS;go_wp2;go_roundw;case rel=>exact⟨k+1,x-a1,rfl,by go_num,by omega,by omega,by omega,Bq,HN _⟩
   grind[intOf]
  ·have tD:¬(k:Int)<(n:Int):=by omega
   obtain rfl:n=k:=by omega
   have hs:=HS.out;have yA:=hs.len.congr fun j hj=>by rw[if_pos hj]
   have UK:=hs.len.1;have hbw:=hs.bel;have hzs:=hbw.size;by_cases kE:x<0
   ·have CG:Hid (Cw 205 #[Sq lb n n,Iq (-x)] wr fun e w'=>e=Rw (.tuple #[])/\bp w' lb 0 (gb ((List.range n).map mn) n (-x) [])/\wr.grownBy w' (some lb)):=by refine z' ((List.range n).map mn) lb 0 n (-x) wr n yA.irow (ph n mn) (by omega) (fun y hy=>?_) ⟨by omega,by omega⟩;obtain⟨j,_,rfl⟩:=l_.1 hy;have:=HM j;omega
    have HF:Hid (∀w2,bp w2 lb 0 (gb ((List.range n).map mn) n (-x) [])->wr.grownBy w2 (some lb)->tX w w2 lb n mn mx wt r):=by intro w2 hi hg;have WP:=TC n mn (fun j=>(HM j).1) r (-x) MQ (by rw[HX.out];omega) (by omega);refine⟨by omega,⟨_,hi.frow WP.2,.inl ⟨?_,WP.1⟩⟩,hbw.grown hg hzs (fun q hq=>by grind)⟩;have:=HX.out;omega
    clear hs yA hbw HX HS;go_wp2_with fail;refine CG.mono ?_;rintro e w2 ⟨rfl,q1,q2⟩;have HZ:=qH<|HF w2 q1 q2;clear q1 q2;go_wp2;go_ret;exact⟨lb,rfl,HZ⟩
   ·have CP:=qH<|
     Qz n lb 0 n w.heap.size 0 n w.heap.size mn mx wt r x wr yA hs.want (by omega) (by omega) hzs (by omega) (fun j=>by have:=HM j;omega) HX ⟨by omega,by omega⟩;have HF:Hid (∀w2,pI wr w2 n lb 0 w.heap.size mn mx wt r->tX w w2 lb n mn mx wt r):=by rintro w2 ⟨g,A,S,L,V,m,p1,p2,p3⟩;refine⟨by omega,⟨g,p2,.inr ⟨?_,A,S,L,V,m,p1⟩⟩,hbw.trans p3⟩;have:=HX.out;omega
    clear hs yA hbw HX HS;go_wp2_with fail;refine CP.mono ?_;rintro e w2 ⟨rfl,q1⟩;have HZ:=qH<|HF w2 q1;clear q1;go_wp2;go_ret;exact⟨lb,rfl,HZ⟩
end
section
variable{Mn Mx Wt:Nat->Int}
def gt(mn mx wt p q:Int):Int:=if mx*q<mn*q+p*wt then mx*q else mn*q+p*wt
theorem uh  mn mx wt p q  :gt mn mx wt p q<=mx*q/\gt mn mx wt p q<=mn*q+p*wt:=by grind[gt]
def lh(n:Nat)(Mn Mx Wt:Nat->Int)(p q:Int):Int:=aG (fun j=>gt (Mn j) (Mx j) (Wt j) p q) (List.range n)
theorem DJ{mn mx wt p q L V}(hw:0<=wt)(hq:0<q)(hV:0<V)(h:p*V<=L*q):gt mn mx wt p q*V<=gt mn mx wt L V*q:=by
 have h1:=(uh mn mx wt p q).1;have h2:=(uh mn mx wt p q).2;have a1:gt mn mx wt p q*V<=mx*q*V:=kq h1 (by omega);have a2:gt mn mx wt p q*V<=(mn*q+p*wt)*V:=kq h2 (by omega);have a3:=kq h hw;have e1:mx*q*V=mx*V*q:=fU _ _ _;have e2:(mn*q+p*wt)*V=mn*V*q+p*V*wt:=by rw[JG,fU mn,fU p]
 have e3:(mn*V+L*wt)*q=mn*V*q+L*q*wt:=by rw[JG,fU L]
 grind[gt]
theorem kG{f g}{l}(h:∀j∈l,f j<=g j)(e:aG f l=aG g l):∀j∈l,f j=g j:=by
 induction l with
 |nil=>grind
 |cons a l ih=>have h1:=h a (by simp);have h2:aG f l<=aG g l:=lM fun j hj=>h j (by simp[hj]);grind[cm]
theorem cD.levs{n}{r}{a}{A S}{L W}{m}(h:cD n Mn Mx Wt r a A S L W m)(hw:∀j,Mn j<=Mx j)(hp:∀j,0<=Wt j)(hW:0<=W):
 ∀j,j<n->gt (Mn j) (Mx j) (Wt j) L W=if j∈A then Mx j*W else if j∈S then Mn j*W+L*Wt j else Mn j*W:=by
 obtain⟨hA,hS,hd,fA,fS,ef⟩:=h.facts;intro j hj;unfold gt;by_cases h1:j∈A;·rw[if_pos h1];have:=h.full j h1;rw[Int.sub_mul]at this;omega
 ·rw[if_neg h1];by_cases h2:j∈S;·rw[if_pos h2];have:=h.open_ j h2;grind
  ·rw[if_neg h2];have h0:Wt j=0:=by
    have:=hp j;by_cases e:0<Wt j;·grind
    ·omega
   have hm:=kq (hw j) hW;grind
theorem qI{f}{n}{A}(hA:A.Nodup)(fA:∀j∈A,j<n):aG (fun j=>if j∈A then f j else 0) (List.range n)=aG f A:=by rw[nc (A:=A) zi hA (fun j hj=>by grind) (fun j _ hj=>if_neg hj)];grind[bG]
theorem cD.tots{n}{r}{a}{A S}{L W}{m}(h:cD n Mn Mx Wt r a A S L W m)(hw:∀j,Mn j<=Mx j)(hp:∀j,0<=Wt j)(hW:0<=W):lh n Mn Mx Wt L W=r*W:=by
 obtain⟨hA,hS,hd,fA,fS,ef⟩:=h.facts;have hl:=h.levs hw hp hW;have e0:lh n Mn Mx Wt L W=W*aG Mn (List.range n)+(W*aG (fun j=>Mx j-Mn j) A+L*aG Wt S):=by
  unfold lh;rw[<-gE W,<-gE W,<-gE L,<-qI (f:=fun j=>W*(Mx j-Mn j)) hA (fun j hj=>(fA j hj).1),<-qI (f:=fun j=>L*Wt j) hS (fun j hj=>(fS j hj).1),<-gD,<-gD];refine bG fun j hj=>?_;rw[hl j (by grind)];by_cases h1:j∈A;·grind
  ·grind
 rw[e0,<-h.weight,h.left];grind
theorem cD.same{n}{r}{a}{A S}{L W}{m}(h:cD n Mn Mx Wt r a A S L W m)(hw:∀j,Mn j<=Mx j)(hp:∀j,0<=Wt j)(hW:0<W){p q}(hq:0<q)(ht:lh n Mn Mx Wt p q=r*q):
 ∀j,j<n->gt (Mn j) (Mx j) (Wt j) p q*W=gt (Mn j) (Mx j) (Wt j) L W*q:=by
 have h2:=h.tots hw hp (by omega);have e1:aG (fun j=>gt (Mn j) (Mx j) (Wt j) p q*W) (List.range n)=r*q*W:=by rw[<-ht];unfold lh;rw[kt _ W,<-gE];exact bG fun j _=>kt _ _
 have e2:aG (fun j=>gt (Mn j) (Mx j) (Wt j) L W*q) (List.range n)=r*W*q:=by rw[<-h2];unfold lh;rw[kt _ q,<-gE];exact bG fun j _=>kt _ _
 have e3:r*q*W=r*W*q:=fU _ _ _;intro j hj;by_cases c:p*W<=L*q;·exact kG (fun j _=>DJ (hp j) hq hW c) (by rw[e1,e2,e3]) j (by simpa using hj)
 ·exact(kG (fun j _=>DJ (hp j) hW hq (by omega)) (by rw[e1,e2,e3]) j (by simpa using hj)).symm
theorem Kt{a N q V:Int}(hq:0<q)(hV:0<V)(h:a*V=N*q):a/q=N/V/\a %q*V=N %V*q:=by
 refine⟨?_,?_⟩;·rw[<-Int.mul_ediv_mul_of_pos_left a q hV,h,kt q V,Int.mul_ediv_mul_of_pos_left N V hq]
 ·rw[kt (a %q) V,<-Int.mul_emod_mul_of_pos a q hV,kt V a,h,kt (N %V) q,<-Int.mul_emod_mul_of_pos N V hq,kt V q,kt q N]
def _Q(Mn Mx Wt:Nat->Int)(A S:List Nat)(L W:Int)(j:Nat):Int:=if j∈A then Mx j else if j∈S then Mn j+L*Wt j/W else Mn j
def TY(Wt:Nat->Int)(S:List Nat)(L W:Int)(j:Nat):Int:=if j∈S then L*Wt j %W else 0
theorem cD.parts{n}{r}{a}{A S}{L W}{m}(h:cD n Mn Mx Wt r a A S L W m)(hw:∀j,Mn j<=Mx j)(hp:∀j,0<=Wt j)(hW:0<W){p q}(hq:0<q)(ht:lh n Mn Mx Wt p q=r*q):
 ∀j,j<n->gt (Mn j) (Mx j) (Wt j) p q/q=_Q Mn Mx Wt A S L W j/\gt (Mn j) (Mx j) (Wt j) p q %q*W=TY Wt S L W j*q:=by
 obtain⟨hA,hS,hd,fA,fS,ef⟩:=h.facts;intro j hj;have h1:=h.same hw hp hW hq ht j hj;have h2:=h.levs hw hp (by omega) j hj;have h3:=Kt hq hW h1;rw[h3.1,h3.2,h2];unfold _Q TY;have cK:W≠0:=by omega
 by_cases c1:j∈A;·rw[if_pos c1,if_pos c1,if_neg (hd j c1)];exact⟨JQ _ cK,by simp_all⟩
 ·rw[if_neg c1,if_neg c1];by_cases c2:j∈S
  ·rw[if_pos c2,if_pos c2,if_pos c2];refine⟨?_,?_⟩;·rw[Int.add_comm,Int.add_mul_ediv_right _ _ cK,Int.add_comm]
   ·rw[Int.add_comm,Int.add_mul_emod_self_right]
  ·rw[if_neg c2,if_neg c2,if_neg c2];exact⟨JQ _ cK,by rw[Int.mul_emod_left]⟩
theorem cD.is_bse{n}{r}{a}{A S}{L W}{m}(h:cD n Mn Mx Wt r a A S L W m)  j  (hj:j<n):a j=_Q Mn Mx Wt A S L W j+(if j∈S.take m then 1 else 0):=by obtain⟨hA,hS,hd,fA,fS,ef⟩:=h.facts;rw[h.is j hj];grind[_Q]
theorem cD.left_m{n}{r}{a}{A S}{L W}{m}(h:cD n Mn Mx Wt r a A S L W m)(hp:∀j,0<=Wt j)(bZ:S≠[]):m<=S.length/\r-aG (_Q Mn Mx Wt A S L W) (List.range n)=m:=by
 obtain⟨hA,hS,hd,fA,fS,ef⟩:=h.facts;have fZ:0<W:=by obtain⟨x,hx⟩:=zj S bZ;rw[h.weight];exact qP (fS x hx).2 (jS (fun k _=>hp k) hx)
 have hb:=lE (L:=L) h.weight fZ;rw[<-h.miss bZ]at hb;have hm:m<=S.length:=by omega
 refine⟨hm,?_⟩;have e:=(h.sum hp).1 bZ;rw[bG (fun j hj=>h.is_bse j (by grind)),gD]at e;have e2:aG (fun j=>if j∈S.take m then(1:Int)else 0) (List.range n)=m:=by rw[nc (A:=S) zi hS (fun j hj=>by grind) (fun j _ hj=>if_neg (fun e=>hj (lm e))),EM S hS m hm]
 omega
theorem cD.frac_pos{n}{r}{a}{A S}{L W}{m}(h:cD n Mn Mx Wt r a A S L W m)(hp:∀j,0<=Wt j)(hW:0<W)  t  (ht:t<m) (hm:m<=S.length):0<L*Wt (S[t]?.getD 0) %W:=by
 have bZ:S≠[]:=by intro e;rw[e]at hm;simp at hm;omega
 have Pr:t<S.length:=by omega
 obtain⟨i,hi⟩:=ag (S[t]?.getD 0);rw[hi];have tD:0<=L*Wt i %W:=E_ _ (by omega);by_cases hz:L*Wt i %W=0
 ·exfalso;have e:aG (fun j=>L*Wt j) S=W*aG (fun j=>L*Wt j/W) S+aG (fun j=>L*Wt j %W) S:=by rw[<-gE,<-gD];exact bG fun j _=>(Int.mul_ediv_add_emod _ _).symm
  rw[gE,<-h.weight]at e;have hmm:=h.miss bZ;have rA:S=S.take t++(i::S.drop (t+1)):=by rw[<-hi,eR Pr];show S=S.take t++(S[t]::S.drop (t+1));rw[<-List.drop_eq_getElem_cons Pr,gU]
  have Dt:=h.sorted;rw[rA,lj]at Dt;have Gn:∀k∈S.drop (t+1),L*Wt k %W=0:=fun k hk=>by have:=(R9.1 Dt.2.1).1 k hk;have h0:0<=L*Wt k %W:=E_ _ (by omega);omega
  have Po:aG (fun j=>L*Wt j %W) S=aG (fun j=>L*Wt j %W) (S.take t):=by
   conv=>lhs;rw[rA]
   rw[na,cm,hz];have:aG (fun j=>L*Wt j %W) (S.drop (t+1))=0:=by
    rw[bG (g:=fun _=>0) Gn];have:∀l:List Nat,aG (fun _=>(0:Int)) l=0:=by
     intro l;induction l with
     |nil=>rfl
     |cons a l ih=>grind[cm]
    exact this _
   omega
  have hbd:aG (fun j=>L*Wt j %W) (S.take t)<=((S.take t).length:Int)*W:=fP fun j _=>JH (JJ _ hW);have bY:(S.take t).length=t:=by rw[cX];omega
  rw[bY]at hbd;have e4:W*(m:Int)=aG (fun j=>L*Wt j %W) S:=by rw[hmm,Int.mul_sub,kt W L];omega
  have h6:W*(t+1:Int)<=W*(m:Int):=Ru (by omega) (by omega);grind
 ·omega
def rS(mn mx wt p q:Int):Bool:=decide (0<wt/\mn*q+p*wt<mx*q)
def xp(n:Nat)(Mn Mx Wt:Nat->Int)(p q:Int):Int:=aG (fun j=>if rS (Mn j) (Mx j) (Wt j) p q then Wt j else 0) (List.range n)
def xo(n:Nat)(Mn Mx Wt:Nat->Int)(p q:Int):Int:=aG (fun j=>if rS (Mn j) (Mx j) (Wt j) p q then Mn j else if 0<Wt j then Mx j else Mn j) (List.range n)
def jD(n:Nat)(Mn Mx Wt:Nat->Int)(r p q:Int):Prop:=xp n Mn Mx Wt p q≠0/\0<=r-xo n Mn Mx Wt p q/\p*xp n Mn Mx Wt p q<=(r-xo n Mn Mx Wt p q)*q/\lh n Mn Mx Wt (r-xo n Mn Mx Wt p q) (xp n Mn Mx Wt p q)=r*xp n Mn Mx Wt p q
theorem IJ{n}{r}{a}{A S}{L W}{m}(h:cD n Mn Mx Wt r a A S L W m)(hw:∀j,Mn j<=Mx j)(hp:∀j,0<=Wt j)(hW:0<W)  p q  (Xc:p*W<=L*q) (hA:∀j∈A,rS (Mn j) (Mx j) (Wt j) p q=false) (hS:∀j∈S,rS (Mn j) (Mx j) (Wt j) p q=true):jD n Mn Mx Wt r p q:=by
 obtain⟨nA,nS,hd,fA,fS,ef⟩:=h.facts;have zie:∀j,j<n->j∉A->j∉S->Wt j=0/\rS (Mn j) (Mx j) (Wt j) p q=false:=fun j hj h1 h2=>by grind[rS]
 have eW:xp n Mn Mx Wt p q=W:=by
  unfold xp;rw[h.weight,<-qI nS (fun j hj=>(fS j hj).1)];refine bG fun j hj=>?_;have hj:j<n:=by simpa using hj
  by_cases h2:j∈S;·grind
  ·grind
 have eB:xo n Mn Mx Wt p q=aG Mn (List.range n)+aG (fun j=>Mx j-Mn j) A:=by
  unfold xo;rw[<-qI (f:=fun j=>Mx j-Mn j) nA (fun j hj=>(fA j hj).1),<-gD];refine bG fun j hj=>?_;have hj:j<n:=by simpa using hj
  by_cases h1:j∈A;·grind
  ·grind
 have eL:r-xo n Mn Mx Wt p q=L:=by rw[eB,h.left];omega
 unfold jD;rw[eW,eL];exact⟨by omega,h.pos,Xc,h.tots hw hp (by omega)⟩
theorem F7  A  (hA:A≠[]) (M V:Nat->Int) (hV:∀j∈A,0<V j):∃i∈A,∀j∈A,M j*V i<=M i*V j:=by
 induction A with
 |nil=>grind
 |cons a A ih=>
  by_cases e:A=[];·simp_all
  ·obtain⟨i,hi,oh⟩:=ih e (fun j hj=>hV j (by simp[hj]));by_cases c:M a*V i<=M i*V a;·grind
   ·refine⟨a,by simp,fun j hj=>?_⟩;rcases km.1 hj with rfl|hj;·omega
    ·have h1:=oh j hj;have va:=hV a (by simp);have vi:=hV i (by simp[hi]);have vj:=hV j (by simp[hj]);have e1:M j*V i*V a<=M i*V j*V a:=kq h1 (by omega);have e2:M i*V a*V j<=M a*V i*V j:=kq (by omega) (by omega);have e3:M j*V a*V i<=M a*V j*V i:=by rw[fU (M j) (V a) (V i),fU (M a) (V j) (V i)];refine jl e1 ?_;rw[fU (M i) (V j) (V a)];exact e2
     simp_all
theorem cD.cand{n}{r}{a}{A S}{L W}{m}(h:cD n Mn Mx Wt r a A S L W m)(hw:∀j,Mn j<=Mx j)(hp:∀j,0<=Wt j)(bZ:S≠[]):
 jD n Mn Mx Wt r 0 1\/∃i,i<n/\0<Wt i/\jD n Mn Mx Wt r (Mx i-Mn i) (Wt i):=by
 obtain⟨nA,nS,hd,fA,fS,ef⟩:=h.facts;have hW:0<W:=by obtain⟨x,hx⟩:=zj S bZ;rw[h.weight];exact qP (fS x hx).2 (jS (fun k _=>hp k) hx)
 by_cases hA:A=[];·subst hA;left;refine IJ h hw hp hW 0 1 (by have:=h.pos;omega) (by simp) fun j hj=>?_;unfold rS;have h1:=h.open_ j hj;have h2:=jb h.pos (hp j);grind
 ·right;obtain⟨i,hi,oh⟩:=F7 A hA (fun j=>Mx j-Mn j) Wt (fun j hj=>(fA j hj).2);refine⟨i,(fA i hi).1,(fA i hi).2,IJ h hw hp hW _ _ (h.full i hi) (fun j hj=>?_) (fun j hj=>?_)⟩;·unfold rS;have:=oh j hj;simp only[decide_eq_false_iff_not];rintro⟨_,h2⟩;have e1:(Mx j-Mn j)*Wt i=Mx j*Wt i-Mn j*Wt i:=Int.sub_mul _ _ _;omega
  ·unfold rS;simp only[decide_eq_true_eq];refine⟨(fS j hj).2,?_⟩;have h1:=h.full i hi;have h2:=h.open_ j hj;have wi:=(fA i hi).2;have wj:=(fS j hj).2;have e1:(Mx i-Mn i)*W*Wt j<=L*Wt i*Wt j:=kq h1 (by omega);have e2:=JI h2 wi;have e3:(Mx i-Mn i)*Wt j*W<(Mx j-Mn j)*Wt i*W:=by rw[fU (Mx i-Mn i) (Wt j) W,fU (Mx j-Mn j) (Wt i) W];refine Int.lt_of_le_of_lt e1 ?_;rw[fU L];exact e2
   have e4:=XM e3 (by omega);grind
theorem cD.all_full{n}{r}{a}{A}{L W}{m}(h:cD n Mn Mx Wt r a A [] L W m)(hw:∀j,Mn j<=Mx j)(hp:∀j,0<=Wt j){p q}(hq:0<q)(ht:lh n Mn Mx Wt p q=r*q):
 (∀j,j<n->gt (Mn j) (Mx j) (Wt j) p q=a j*q)/\r=aG a (List.range n):=by
 obtain⟨nA,nS,hd,fA,fS,ef⟩:=h.facts;have hs:=(h.sum hp).2 rfl;have hle:∀j∈List.range n,gt (Mn j) (Mx j) (Wt j) p q<=a j*q:=fun j hj=>by
  have hj:j<n:=by simpa using hj
  rw[h.is j hj];have h1:=(uh (Mn j) (Mx j) (Wt j) p q);grind
 have e1:aG (fun j=>a j*q) (List.range n)=aG a (List.range n)*q:=by rw[kt,<-gE];exact bG fun j _=>kt _ _
 have Po:=lM hle;have ht':aG (fun j=>gt (Mn j) (Mx j) (Wt j) p q) (List.range n)=r*q:=ht;rw[ht',e1]at Po;have h3:=XJ Po hq;have hr:r=aG a (List.range n):=by have:=h.pos;omega
 grind[kG]
structure pF(n:Nat)(f:Nat->Int)(b:Nat):Prop where
 lt:b<n
 top:∀j,j<n->f j<=f b
 first:∀j,j<b->f j<f b
theorem pF.uniq{n}{f}{b c}(h:pF n f b)(k:pF n f c):b=c:=by
 rcases Nat.lt_trichotomy b c with e|e|e;·have:=k.first b e;have:=h.top c k.lt;omega
 ·exact e
 ·have:=h.first c e;have:=k.top b h.lt;omega
theorem cD.best{n}{r}{a}{A S}{L W}{m}(h:cD n Mn Mx Wt r a A S L W m)(hp:∀j,0<=Wt j)(hW:0<W)  t  (ht:t<m) (hm:m<=S.length) (rest:Nat->Int) {q} (hq:0<q) (hr:∀j,j<n->rest j*W=TY Wt S L W j*q):
 pF n (fun j=>if j∈S.take t then-1 else rest j) (S[t]?.getD 0):=by
 obtain⟨nA,nS,hd,fA,fS,ef⟩:=h.facts;have fZ:=h.frac_pos hp hW t ht hm;have Pr:t<S.length:=by omega
 obtain⟨i,hi⟩:=ag (S[t]?.getD 0);rw[hi]at fZ⊢;have hiS:i∈S:=by rw[<-hi,eR Pr];exact lX Pr
 have rA:S=S.take t++(i::S.drop (t+1)):=by rw[<-hi,eR Pr];show S=S.take t++(S[t]::S.drop (t+1));rw[<-List.drop_eq_getElem_cons Pr,gU]
 have hnt:i∉S.take t:=by have:=nS;rw[rA,Rn]at this;exact fun hm=>this.2.2 i hm i (by simp) rfl
 have Dt:=h.sorted;rw[rA,lj]at Dt;have Gn:=(R9.1 Dt.2.1).1;have hri:=hr i (fS i hiS).1;have hfi:TY Wt S L W i=L*Wt i %W:=by unfold TY;rw[if_pos hiS]
 rw[hfi]at hri;have zlV:0<rest i:=by
  have h1:=Int.mul_pos fZ hq;rw[<-hri]at h1;by_cases e:0<rest i;·exact e
  ·have:rest i*W<=0:=Int.mul_nonpos_of_nonpos_of_nonneg (by omega) (by omega);omega
 have key:∀j,j<n->j∉S.take t->j≠i->(rest j<rest i\/(rest j=rest i/\i<j)):=by
  intro j hj zqa hji;have hrj:=hr j hj;by_cases hjS:j∈S
  ·have SG:j∈S.drop (t+1):=by
    rw[rA]at hjS;rcases jW.1 hjS with h1|h1;·grind
    ·grind
   have hfj:TY Wt S L W j=L*Wt j %W:=by unfold TY;rw[if_pos hjS]
   rw[hfj]at hrj;rcases Gn j SG with h1|⟨h1,h2⟩;·left;have h3:=JI h1 hq;rw[<-hri,<-hrj]at h3;exact XM h3 (by omega)
   ·right;refine⟨?_,h2⟩;rw[<-h1,<-hri]at hrj;exact Int.eq_of_mul_eq_mul_right (by omega) hrj
  ·left;have hfj:TY Wt S L W j=0:=by unfold TY;rw[if_neg hjS]
   rw[hfj,Int.zero_mul]at hrj;have:rest j=0:=by
    rcases Int.mul_eq_zero.1 hrj with h|h;·exact h
    ·omega
   omega
 refine⟨(fS i hiS).1,fun j hj=>?_,fun j hj=>?_⟩
 ·rw[if_neg hnt];by_cases c:j∈S.take t;·rw[if_pos c];omega
  ·rw[if_neg c];by_cases e:j=i;·rw[e];exact li _
   ·rcases key j hj c e with h|⟨h,_⟩<;>omega
 ·rw[if_neg hnt];have Af:j<n:=by have:=(fS i hiS).1;omega
  by_cases c:j∈S.take t;·rw[if_pos c];omega
  ·rw[if_neg c];rcases key j Af c (by omega)with h|⟨_,h⟩<;>omega
theorem EK  f   n k  (hk:k<=n):aG f (List.range n)=aG f (List.range k)+aG f ((List.range n).drop k):=by
 rw[<-na];congr 1;have:List.range k=(List.range n).take k:=by rw[List.take_range,RV hk]
 rw[this,gU]
theorem DN{n k j}(h:j∈(List.range n).drop k):k<=j/\j<n:=by obtain⟨i,hi,e⟩:=sY.1 h;grind
theorem tk.le_of{n}{mn}{r}{g g'}(h:tk n mn r g)(h':tk n mn r g')  k  (hk:k<n) (e:∀j,j<k->g j=g' j):g' k<=g k:=by
 by_cases c:g' k<=g k;·exact c
 ·exfalso;have hb:=h'.bd k hk;have s1:=EK g n (k+1) (by omega);have s2:=EK g' n (k+1) (by omega);have t1:aG g ((List.range n).drop (k+1))<=0:=by
   have:aG g ((List.range n).drop (k+1))<=aG (fun _=>0) ((List.range n).drop (k+1)):=lM fun j hj=>by have:=DN hj;rw[h.behind k j (by omega) (by omega) (by omega)];omega
   refine jl this ?_;have z:∀l:List Nat,aG (fun _=>(0:Int)) l=0:=by
    intro l;induction l with
    |nil=>rfl
    |cons a l ih=>grind[cm]
   rw[z];exact li _
  have t2:0<=aG g' ((List.range n).drop (k+1)):=cW fun j hj=>(h'.bd j (DN hj).2).1;have t3:aG g (List.range k)=aG g' (List.range k):=bG fun j hj=>e j (by grind);rw[l',dR]at s1 s2;have:=h.sum;have:=h'.sum;omega
theorem tk.uniq{n}{mn}{r}{g g'}(h:tk n mn r g)(h':tk n mn r g'):∀j,j<n->g j=g' j:=by
 have:∀k,k<=n->∀j,j<k->g j=g' j:=by
  intro k;induction k with
  |zero=>omega
  |succ k ih=>
   intro hk j hj;have ihk:=ih (by omega);by_cases e:j<k;·grind
   ·obtain rfl:j=k:=by omega
    have a1:=h.le_of h' j (by omega) ihk;have a2:=h'.le_of h j (by omega) (fun i hi=>(ihk i hi).symm);omega
 grind
end
section
open Go.RowKit Go.Sort
def om(Mn Mx Wt:Nat->Int):Prop:=∀j,0<=Mn j/\Mn j<=Mx j/\Mx j<=100000/\0<=Wt j/\Wt j<=100000
structure Im(n:Nat)(Mn Mx Wt:Nat->Int)(r p q:Int)(g:Nat->Int)(S:List Nat)(m:Nat)(base rest:Nat->Int):Prop where
 base_:∀j,j<n->gt (Mn j) (Mx j) (Wt j) p q/q=base j
 rest_:∀j,j<n->gt (Mn j) (Mx j) (Wt j) p q %q=rest j
 left:r-aG base (List.range n)=m
 le:m<=S.length
 nodup:S.Nodup
 lt:∀j∈S,j<n
 best:∀t,t<m->pF n (fun j=>if j∈S.take t then-1 else rest j) (S[t]?.getD 0)
 is:∀j,j<n->g j=base j+(if j∈S.take m then 1 else 0)
theorem mZ{n}{Mn Mx Wt}{r p q}{g}(hM:om Mn Mx Wt)(hsp:cO n Mn Mx Wt r g)(hle:aG Mn (List.range n)<=r)(hq:0<q)(ht:lh n Mn Mx Wt p q=r*q):∃S m base rest,Im n Mn Mx Wt r p q g S m base rest:=by
 have hw:=fun j=>(hM j).2.1;have hp:=fun j=>(hM j).2.2.2.1;rcases hsp with⟨h1,_⟩|⟨_,A,S,L,V,m,h⟩;·omega
 ·obtain⟨nA,nS,hd,fA,fS,ef⟩:=h.facts;by_cases hS:S=[];·subst hS;have hf:=h.all_full hw hp hq ht;refine⟨[],0,g,fun j=>gt (Mn j) (Mx j) (Wt j) p q %q,fun j hj=>?_,fun _ _=>rfl,by omega,by simp,by simp,by simp,fun t ht=>by omega,fun j hj=>by simp⟩;rw[hf.1 j hj];exact JQ _ (by omega)
  ·have hV:0<V:=by obtain⟨x,hx⟩:=zj S hS;rw[h.weight];exact qP (fS x hx).2 (jS (fun k _=>hp k) hx)
   have hpt:=h.parts hw hp hV hq ht;have Zd:=h.left_m hp hS;exact⟨S,m,_Q Mn Mx Wt A S L V,fun j=>gt (Mn j) (Mx j) (Wt j) p q %q,fun j hj=>(hpt j hj).1,fun _ _=>rfl,Zd.2,Zd.1,nS,fun j hj=>(fS j hj).1,fun t ht=>h.best hp hV t ht Zd.1 _ hq (fun j hj=>(hpt j hj).2),fun j hj=>h.is_bse j hj⟩
theorem pF.congr{n}{f g}{b}(h:pF n f b)(e:∀j,j<n->f j=g j):pF n g b:=by
 refine⟨h.lt,fun j hj=>?_,fun j hj=>?_⟩;·rw[<-e j hj,<-e b h.lt];exact h.top j hj
 ·have:=h.lt;rw[<-e j (by omega),<-e b h.lt];exact h.first j hj
theorem Im.uniq{n}{Mn Mx Wt}{r p q}{g g'}{S S'}{m m'}{base WA rest Xy}(h:Im n Mn Mx Wt r p q g S m base rest)(h':Im n Mn Mx Wt r p q g' S' m' WA Xy):∀j,j<n->g j=g' j:=by
 have hb:=fun j hj=>(h.base_ j hj).symm.trans (h'.base_ j hj);have hr:=fun j hj=>(h.rest_ j hj).symm.trans (h'.rest_ j hj);have hs:aG base (List.range n)=aG WA (List.range n):=bG fun j hj=>hb j (by grind);have hm:m=m':=by have h1:=h.left;have h2:=h'.left;omega
 subst hm;have ht:∀t,t<=m->S.take t=S'.take t:=by
  intro t;induction t with
  |zero=>grind
  |succ t ih=>
   intro hle;have e:=ih (by omega);have b1:=h.best t (by omega);have b2:=h'.best t (by omega);have b3:=b1.congr (g:=fun j=>if j∈S'.take t then-1 else Xy j) fun j hj=>by grind
   have e2:=b3.uniq b2;have l1:t<S.length:=by have:=h.le;omega
   have l2:t<S'.length:=by have:=h'.le;omega
   rw[eR l1,eR l2]at e2;have e3:S[t]=S'[t]:=e2;rw[lk l1,lk l2,e,e3]
 intro j hj;rw[h.is j hj,h'.is j hj,hb j hj,ht m (ai _)]
theorem cO.uniq{n}{Mn Mx Wt}{r}{g g'}(hM:om Mn Mx Wt)(h:cO n Mn Mx Wt r g)(h':cO n Mn Mx Wt r g'):∀j,j<n->g j=g' j:=by
 have hw:=fun j=>(hM j).2.1;have hp:=fun j=>(hM j).2.2.2.1;have k:=h;have k':=h';rcases h with⟨a,b⟩|⟨a,A,S,L,V,m,p⟩
 ·rcases h' with⟨a',b'⟩|⟨a',_⟩;·exact b.uniq b'
  ·omega
 ·rcases h' with⟨a',_⟩|⟨a',A',S',L',V',m',p'⟩;·omega
  ·obtain⟨_,_,_,fA,fS,ef⟩:=p.facts;obtain⟨_,_,_,fA',fS',zce⟩:=p'.facts;by_cases e:S=[]
   ·by_cases e':S'=[];·subst e;subst e';intro j hj;rw[p.is j hj,p'.is j hj];grind
    ·have hV:0<V':=by obtain⟨x,hx⟩:=zj S' e';rw[p'.weight];exact qP (fS' x hx).2 (jS (fun k _=>hp k) hx)
     have ht:=p'.tots hw hp (by omega);obtain⟨_,_,_,_,q1⟩:=mZ hM k a hV ht;obtain⟨_,_,_,_,q2⟩:=mZ hM k' a' hV ht;exact q1.uniq q2
   ·have hV:0<V:=by obtain⟨x,hx⟩:=zj S e;rw[p.weight];exact qP (fS x hx).2 (jS (fun k _=>hp k) hx)
    have ht:=p.tots hw hp (by omega);obtain⟨_,_,_,_,q1⟩:=mZ hM k a hV ht;obtain⟨_,_,_,_,q2⟩:=mZ hM k' a' hV ht;exact q1.uniq q2
end
section
open Go.RowKit Go.Sort Go.Proofs.Tryz
def fT(a b c:Nat->Int):Nat->List Value
 |0=>[]
 |k+1=>fT a b c k++[Iq (a k),Iq (b k),Iq (c k)]
theorem wU  a b c  :∀k,(fT a b c k).length=k*3
 |0=>rfl
 |k+1=>by rw[fT,bm,wU a b c k];grind
theorem rW  a b c  :∀k j,j<k->(fT a b c k)[j*3]?=some (Iq (a j))/\(fT a b c k)[j*3+1]?=some (Iq (b j))/\(fT a b c k)[j*3+2]?=some (Iq (c j))
 |0,j,h=>by omega
 |k+1,j,h=>by
  have hl:=wU a b c k;by_cases e:j<k;·have:=rW a b c k j e;grind[fT]
  grind[fT]
def zgQ(B:Nat)(W:World)(v:Value)(n:Nat)(a b c:Nat->Int):Prop:=∃p cap,v=.slice p n cap/\(n=0\/∃g,p=some (az g 0)/\B<=g/\fg W g 0 n a b c)
theorem E7{W}{B n}{e}{v}{a b c}(h:W.ownsRow B e 3 v n (fT a b c n)):zgQ B W v n a b c:=by
 have h0:=h;rcases h.2 with⟨rfl,rfl⟩|⟨g,cap,ik,rfl,hb,hg,h1,h2,_⟩;·exact⟨none,0,rfl,.inl rfl⟩
 ·refine⟨some (az g 0),cap,rfl,.inr ⟨g,rfl,hb,(aM.1 hg).1,fun j hj=>?_⟩⟩;have:=rW a b c n j hj;rw[h0.cellAt _ (by omega),h0.cellAt _ (by omega),h0.cellAt _ (by omega),bM];omega
def _N(W:World)(v:Value)(n:Nat)(a b c:Nat->Int):Prop:=∃p cap,v=.slice p n cap/\(n=0\/∃g off,p=some (az g off)/\fg W g off n a b c)
theorem _N.below{A B}{v}{n}{a b c}(h:_N A v n a b c)(hb:Bt A B):_N B v n a b c:=by
 obtain⟨p,cap,hv,h⟩:=h;refine⟨p,cap,hv,?_⟩;rcases h with h|⟨g,off,hp,hr⟩;·omega
 ·exact .inr ⟨g,off,hp,hr.below hb⟩
def zH(w w':World)(v:Value)(n:Nat)(a b c:Nat->Int)(aY cj:Int):Prop:=
 ((n=0\/200<n)/\v=.slice none 0 0/\w'=w)\/(0<n/\n<=200/\∃lb,v=Sq lb n n/\tX w w' lb n (fun j=>cl (a j)) (fun j=>eO (a j) (b j)) (fun j=>cl (c j)) (rm aY cj n))
theorem nY  v   n   a b c   aY cj   w  (h:_N w v n a b c) (hn:n<=5864062014805):
 Cw 169 #[Iq aY,Iq cj,v] w fun e w'=>∃v,e=Rw v/\zH w w' v n a b c aY cj:=by
 obtain⟨p,cap,rfl,h⟩:=h;by_cases h0:n=0\/200<n;·exact(H7 p n cap aY cj w h0 (by omega)).mono fun e w' ⟨he,hw⟩=>⟨_,he,.inl ⟨h0,rfl,hw⟩⟩
 ·obtain⟨g,off,rfl,hr⟩:=h.resolve_left (fun e=>h0 (.inl e));exact(Mk n g off cap a b c aY cj w hr (by omega) (by omega)).mono fun e w' ⟨lb,he,hs⟩=>⟨_,he,.inr ⟨by omega,by omega,lb,rfl,hs⟩⟩
theorem zH.below{w w'}{v}{n}{a b c}{aY cj}(h:zH w w' v n a b c aY cj):Bt w w':=by
 rcases h with⟨_,_,rfl⟩|⟨_,_,lb,_,h⟩;·exact aj _ _
 ·exact h.2.2
end
section
open Go.RowKit Go.Sort
theorem cO.tiles{n}{mn mx wt g}{r}(h:cO n mn mx wt r g)(hm:∀j,0<=mn j/\mn j<=mx j/\mx j<=100000/\0<=wt j/\wt j<=100000):
 (∀j,j<n->0<=g j/\g j<=mx j)/\(r<=aG mn (List.range n)\/r<=aG (fun j=>if 0<wt j then mx j else mn j) (List.range n)->aG g (List.range n)=r)/\
  (aG mn (List.range n)<r->aG (fun j=>if 0<wt j then mx j else mn j) (List.range n)<r->aG g (List.range n)=aG (fun j=>if 0<wt j then mx j else mn j) (List.range n)):=by
 have hle:aG mn (List.range n)<=aG (fun j=>if 0<wt j then mx j else mn j) (List.range n):=lM fun j _=>by grind
 rcases h with⟨h1,hb⟩|⟨h1,A,S,L,V,m,hp⟩;·refine⟨fun j hj=>?_,fun _=>hb.sum,fun h=>by omega⟩;have:=hb.bd j hj;grind
 ·have ht:=hp.tiles (fun j=>(hm j).2.1) (fun j=>(hm j).2.2.2.1);refine⟨fun j hj=>?_,fun h=>by omega,fun _ h=>by omega⟩;have:=hp.bds (fun j=>(hm j).2.1) (fun j=>(hm j).2.2.2.1) j hj;grind
theorem ic(a b c:Nat->Int)  j  :0<=cl (a j)/\cl (a j)<=eO (a j) (b j)/\eO (a j) (b j)<=100000/\0<=cl (c j)/\cl (c j)<=100000:=
 ⟨(dU _).1,(iP _ _).1,(iP _ _).2,(dU _).1,(dU _).2⟩
end
section
open Go.RowKit Go.Sort Go.Proofs.Tryz
def cR(g:Nat->Int)(cg:Int)(k:Nat):Int:=aG (fun j=>g j+cg) (List.range k)
theorem nQ  g   cg   k  :cR g cg (k+1)=cR g cg k+(g k+cg):=by unfold cR;rw[l',dR]
theorem nP{g}{cg}{n}(hg:∀j,j<n->0<=g j/\g j<=100000)(hc:0<=cg/\cg<=100000)  k  (hk:k<=n):0<=cR g cg k/\cR g cg k<=(k:Int)*200000:=by
 refine⟨cW fun j hj=>by grind,?_⟩;have:=fP (f:=fun j=>g j+cg) (l:=List.range k) (b:=200000) fun j hj=>by grind
 rw[JK]at this;exact this
def NB(w w':World)(v:Value)(n:Nat)(a b c:Nat->Int)(aY cj:Int):Prop:=
 ((n=0\/200<n)/\v=.slice none 0 0/\w'=w)\/(0<n/\n<=200/\∃lb g,v=Sq lb n n/\dh w' lb 0 n (cR g (cl cj))/\cO n (fun j=>cl (a j)) (fun j=>eO (a j) (b j)) (fun j=>cl (c j)) (rm aY cj n) g/\Bt w w')
theorem NB.below{w w'}{v}{n}{a b c}{aY cj}(h:NB w w' v n a b c aY cj):Bt w w':=by
 rcases h with⟨_,_,rfl⟩|⟨_,_,lb,g,_,_,_,h⟩;·exact aj _ _
 omega
theorem Vg  g   cg   k   j  :qX (fun j=>if j<k then cR g cg j else g j) k (cR g cg k) j=if j<k+1 then cR g cg j else g j:=by grind[qX]
def Yl(w:World)(v:Value):Prop:=∀lb o n c,v=.slice (some (az lb o)) n c->w.heap.size<=lb
theorem D5(v:Value)(n:Nat)(a b c:Nat->Int)(aY cj:Int)(w:World)(h:_N w v n a b c)(hn:n<=5864062014805):
 Cw 170 #[Iq aY,Iq cj,v] w fun e w'=>∃v,e=Rw v/\NB w w' v n a b c aY cj/\Yl w v:=by
 have C2:Hid (Cw 169 #[Iq aY,Iq cj,v] w fun e w'=>∃v,e=Rw v/\zH w w' v n a b c aY cj):=nY v n a b c aY cj w h hn;have CC:Hid (∀w,Cw 204 #[Iq cj] w fun e w'=>e=Rw (Iq (cl cj))/\w'=w):=fun w=>shClamped_any cj w;have yy:=dU cj;obtain⟨cg,K3⟩:=ag (cl cj);have HCG:Hid (cl cj=cg):=K3;rw[K3]at CC yy;have cg0:=yy.1;have cg1:=yy.2;clear h K3 yy;go_enter func170,ntmps170;go_wp2_with fail;refine C2.out.mono ?_;rintro e w2 ⟨v2,rfl,hs⟩;clear C2;rcases hs with⟨h0,rfl,rfl⟩|⟨h1,h2,lb,rfl,hlb,⟨g,hrow,hsp⟩,zcl⟩
 ·have HO:Hid (NB w2 w2 (.slice none 0 0) n a b c aY cj):=.inl ⟨h0,rfl,rfl⟩;clear h0;go_wp2;go_loop[8,17] (fun s i=>s=Iq 0/\i=Iq 0) (fun _ _=>0);case atStart=>grind
  case round=>obtain⟨rfl,rfl⟩:=hrel;go_wp2;go_ret;exact⟨_,rfl,HO.out,fun lb o n c e=>by cases e⟩
 ·have nC:∀j,j<n->0<=g j/\g j<=100000:=fun j hj=>by have h1:=(hsp.tiles (ic a b c)).1 j hj;have h2:=ic a b c j;omega
  have HGB:Hid (∀j,j<n->0<=g j/\g j<=100000):=nC;have X8:Hid (∀k,k<=n->0<=cR g cg k/\cR g cg k<=(k:Int)*200000):=fun k hk=>nP nC ⟨cg0,cg1⟩ k hk;have BU:Hid (cO n (fun j=>cl (a j)) (fun j=>eO (a j) (b j)) (fun j=>cl (c j)) (rm aY cj n) g):=hsp;have R0:Hid (dh w2 lb 0 n (fun j=>if j<0 then cR g cg j else g j)/\Bt w w2):=⟨hrow.congr fun j _=>by simp,zcl⟩;clear nC hsp hrow zcl;go_wp2;go_loopw[8,17] (fun s i wr=>∃k:Nat,s=Iq (cR g cg k)/\i=Iq k/\k<=n/\Hid (dh wr lb 0 n (fun j=>if j<k then cR g cg j else g j)/\Bt w wr)) (fun _ i _=>n-(intOf i).toNat);case atStart=>exact⟨0,rfl,rfl,aZ _,R0.out⟩
  case round=>
   obtain⟨k,rfl,rfl,hk,HR⟩:=hrel;by_cases hlt:k<n
   ·have aN:(k:Int)<(n:Int):=by omega
    have hc:=HR.out.1.2 k hlt;dsimp only at hc;rw[if_neg (by omega),bM]at hc;have Gk:=HGB.out k hlt;have Zf:=X8.out k hk;have ho2:=X8.out (k+1) (by omega);have Dq:=nQ g cg k;have Lj:=HR.out.1.set k (cR g cg k) hlt;rw[bM]at Lj;have HN:Hid (dh (wr.setCell (az lb k) (Iq (cR g cg k))) lb 0 n (fun j=>if j<k+1 then cR g cg j else g j)/\Bt w (wr.setCell (az lb k) (Iq (cR g cg k)))):=⟨Lj.congr fun j _=>Vg g cg k j,HR.out.2.setCell hlb _⟩;obtain⟨gk,Ae⟩:=ag (g k);rw[Ae]at hc Gk Dq;obtain⟨o1,Pg⟩:=ag (cR g cg k);rw[Pg]at Zf Dq HN⊢;have HNX:Hid (cR g cg (k+1)=o1+(gk+cg)):=Dq;obtain⟨Yt,fl1⟩:=hc;obtain⟨gk0,gk1⟩:=Gk;obtain⟨o10,o11⟩:=Zf;clear Lj Ae Pg ho2 Dq HR;go_wp2_with(go_at_call 204;refine(CC.out _).mono ?_;rintro e w5 ⟨rfl,rfl⟩);go_roundw;case rel=>exact⟨k+1,by rw[HNX.out],by go_num,by omega,HN.out⟩
    grind[intOf]
   ·have tD:¬(k:Int)<(n:Int):=by omega
    obtain rfl:n=k:=by omega
    have HF:Hid (NB w wr (Sq lb n n) n a b c aY cj):=.inr ⟨h1,h2,lb,g,rfl,by rw[HCG.out];exact HR.out.1.congr fun j hj=>by omega,BU.out,HR.out.2⟩;clear HR;go_wp2;go_ret;exact⟨_,rfl,HF.out,fun lb' o n' c' e=>by simp_all⟩
theorem rCl_any(x:Int)(w:World):
 Cw 88 #[Iq x] w fun e w'=>e=Rw (Iq (cl x))/\w'=w:=by
 obtain⟨y,hy⟩:=ag (cl x);rw[hy];unfold cl at hy;by_cases h1:x<0;·rw[if_pos h1]at hy;subst hy;go_enter func88,ntmps88;go_wp2;go_ret;simp_all
 ·rw[if_neg h1]at hy;by_cases h2:100000<x;·rw[if_pos h2]at hy;subst hy;go_enter func88,ntmps88;go_wp2;go_ret;simp_all
  ·rw[if_neg h2]at hy;subst hy;go_enter func88,ntmps88;go_wp2;go_ret;simp_all
theorem yT(aY cj:Int)(n:Nat)(hn:n<=1)(w:World):
 Cw 158 #[Iq aY,Iq cj,Iq n] w fun e w'=>e=Rw (Iq (cl aY))/\w'=w:=by
 have C1:=qH<|fun w=>rCl_any aY w;obtain⟨cr,xf⟩:=ag (cl aY);have b:=dU aY;rw[xf]at C1 b⊢;have b1:=b.1;have h1:¬(1:Int)<(n:Int):=by omega
 have h2:¬cr<0:=by omega
 clear b xf;go_enter func158,ntmps158;go_wp2_with(go_at_call 88;refine(C1 _).mono ?_;rintro e w5 ⟨rfl,rfl⟩);go_ret;simp_all
theorem L4(aY cj:Int)(n:Nat)(Do:0<n)(hn:n<=200)(w:World):
 Cw 158 #[Iq aY,Iq cj,Iq n] w fun e w'=>e=Rw (Iq (rm aY cj n))/\w'=w:=by
 by_cases xi:n<=1
 ·obtain rfl:n=1:=by omega
  have:=yT aY cj 1 (by omega) w;grind[rm,cl,dU]
 ·have C1:=qH<|fun w=>rCl_any aY w;have C2:=qH<|fun w=>rCl_any cj w;obtain⟨rr,hrr⟩:=ag (rm aY cj n);rw[hrr];unfold rm at hrr;obtain⟨cr,xf⟩:=ag (cl aY);obtain⟨cg,yy⟩:=ag (cl cj);have b:=dU aY;have d:=dU cj;rw[xf]at C1 b hrr;rw[yy]at C2 d hrr;have b1:=b.1;have b2:=b.2;have d1:=d.1;have d2:=d.2;have Ld:(1:Int)<(n:Int):=by omega
  have HR:=qH<|hrr;clear b xf d yy hrr;go_enter func158,ntmps158;go_wp2_with(go_at_call 88;first|(refine(C1 _).mono ?_;rintro e w5 ⟨rfl,rfl⟩)|(refine(C2 _).mono ?_;rintro e w5 ⟨rfl,rfl⟩));go_loop[7,9] (fun r k=>∃(j:Nat) (x:Int),r=Iq x/\k=Iq j/\1<=j/\j<=n/\-100000<=x/\x<=100000/\Hid (x=cr-cg*((j:Int)-1))) (fun _ k=>n-(intOf k).toNat);case atStart=>exact⟨1,cr,rfl,rfl,by omega,by omega,by omega,by omega,by simp[Hid]⟩
  case round=>
   obtain⟨j,x,rfl,rfl,Uu,IZ,sC,nD,HX⟩:=hrel;by_cases hlt:j<n
   ·have aN:(j:Int)<(n:Int):=by omega
    by_cases fZ:0<x
    ·have Bq:Hid (x-cg=cr-cg*(((j+1:Nat):Int)-1)):=by show _=_;rw[HX.out,show(((j+1:Nat):Int)-1)=((j:Int)-1)+1 by omega,Int.mul_add,Int.mul_one];omega
     clear HX;go_wp2;grind[intOf]
    ·have hrr:rr=0:=by rw[<-HR.out];have e:=HX.out;have:cg*((j:Int)-1)<=cg*((n:Int)-1):=Ru (by omega) d1;omega
     subst hrr;clear HX;by_cases hz:x<0;·go_wp2;go_ret;simp_all
     ·obtain rfl:x=0:=by omega
      go_wp2;go_ret;simp_all
   ·have aN:¬(j:Int)<(n:Int):=by omega
    obtain rfl:n=j:=by omega
    by_cases hz:x<0
    ·have hrr:rr=0:=by rw[<-HR.out,<-HX.out];omega
     subst hrr;clear HX;go_wp2;go_ret;simp_all
    ·have hrr:rr=x:=by rw[<-HR.out,<-HX.out];omega
     subst hrr;clear HX;go_wp2;go_ret;simp_all
theorem FU  w   a b c  :Bt w (((w.alloc a).alloc b).alloc c):=(((aj _ _).alloc (ai _) _).alloc (by simp) _).alloc (by simp;omega) _
theorem rHeld_any(a b c:Int)(w:World):
 Cw 157 #[.agg #[Iq a,Iq b,Iq c]] w fun e w'=>e=Rw (.agg #[Iq (cl a),Iq (eO a b),Iq (cl c)])/\Bt w w':=by
 have CC:=qH<|rCl_any;have ba:=dU a;have ba1:=ba.1;have ba2:=ba.2;have HE:Hid (∀y,y=eO a b->Ending.returned (.agg #[Iq (cl a),Iq y,Iq (cl c)])=Rw (.agg #[Iq (cl a),Iq (eO a b),Iq (cl c)])):=fun y h=>by rw[h]
 clear ba;by_cases h1:b<0
 ·have HY:Hid (100000=eO a b):=by show _=_;unfold eO;rw[if_pos h1]
  have h2:¬0<=b:=by omega
  have h3:¬100000<cl a:=by omega
  go_enter func157,ntmps157;go_wp2_with(go_at_call 88;refine(CC _ _).mono ?_;rintro e w5 ⟨rfl,rfl⟩);exact bodyPost_ret (v:=.agg #[Iq (cl a),Iq 100000,Iq (cl c)]) (by simp[results,Tryz.results157,go_sem]) rfl ⟨HE _ HY,FU _ _ _ _⟩
 ·have h2:0<=b:=by omega
  by_cases h3:cl b<cl a
  ·have HY:Hid (cl a=eO a b):=by show _=_;unfold eO;rw[if_neg h1,if_pos h3]
   go_enter func157,ntmps157;go_wp2_with(go_at_call 88;refine(CC _ _).mono ?_;rintro e w5 ⟨rfl,rfl⟩);exact bodyPost_ret (v:=.agg #[Iq (cl a),Iq (cl a),Iq (cl c)]) (by simp[results,Tryz.results157,go_sem]) rfl ⟨HE _ HY,FU _ _ _ _⟩
  ·have HY:Hid (cl b=eO a b):=by show _=_;unfold eO;rw[if_neg h1,if_neg h3]
   go_enter func157,ntmps157;go_wp2_with(go_at_call 88;refine(CC _ _).mono ?_;rintro e w5 ⟨rfl,rfl⟩);exact bodyPost_ret (v:=.agg #[Iq (cl a),Iq (cl b),Iq (cl c)]) (by simp[results,Tryz.results157,go_sem]) rfl ⟨HE _ HY,FU _ _ _ _⟩
theorem ie{x y B C:Int}(BM:0<=x)(hx:x<=B)(Zt:0<=y)(hy:y<=C)(hB:0<=B):0<=x*y/\x*y<=B*C:=
 ⟨jb BM Zt,nj hx hy Zt hB⟩
theorem GP{a b c p q}(ha:0<=a)(hb:0<=b)(hb2:b<=100000)(hc:0<=c)(hp:0<=p)(Zj:0<=q)(hq:q<=20000000):0<=gt a b c p q/\gt a b c p q<=2000000000000:=by have h1:=ie hb hb2 Zj hq (by omega);have h2:=jb ha Zj;have h3:=jb hp hc;grind[gt]
theorem vS(a b c p q:Int)(w:World)(ha:0<=a/\a<=100000)(hb:0<=b/\b<=100000)(hc:0<=c/\c<=100000)(hp:0<=p/\p<=20000000)(hq:0<=q/\q<=20000000):
 Cw 161 #[.agg #[Iq a,Iq b,Iq c],Iq p,Iq q] w fun e w'=>e=Rw (Iq (gt a b c p q))/\Bt w w':=by
 have h1:=ie ha.1 ha.2 hq.1 hq.2 (by omega);have h2:=ie hb.1 hb.2 hq.1 hq.2 (by omega);have h3:=ie hp.1 hp.2 hc.1 hc.2 (by omega);obtain⟨z,hz⟩:=ag (gt a b c p q);rw[hz];unfold gt at hz;obtain⟨aq,Uc⟩:=ag (a*q);obtain⟨bq,IQ⟩:=ag (b*q);obtain⟨pc,Xb⟩:=ag (p*c);rw[Uc,IQ,Xb]at hz;rw[Uc]at h1;rw[IQ]at h2;rw[Xb]at h3;have a1:=h1.1;have a2:=h1.2;have a3:=h2.1;have a4:=h2.2;have a5:=h3.1;have a6:=h3.2;clear h1 h2 h3 ha hb hc hp hq;by_cases c1:bq<aq+pc;·rw[if_pos c1]at hz;subst hz;go_enter func161,ntmps161;go_wp2;go_ret;exact⟨rfl,(aj _ _).alloc (ai _) _⟩
 ·rw[if_neg c1]at hz;subst hz;go_enter func161,ntmps161;go_wp2;go_ret;exact⟨rfl,(aj _ _).alloc (ai _) _⟩
theorem Hj(n blk off cap:Nat)(Mn Mx Wt:Nat->Int)(p q:Int)(w:World)(h:fg w blk off n Mn Mx Wt)(hn:n<=200)(hM:om Mn Mx Wt)(hp:0<=p/\p<=20000000)(hq:0<=q/\q<=20000000):
 Cw 194 #[.slice (some (az blk off)) n cap,Iq p,Iq q] w fun e w'=>e=Rw (Iq (lh n Mn Mx Wt p q))/\Bt w w':=by
 have HW:=qH<|h;have HM:=qH<|hM;have HPQ:Hid ((0<=p/\p<=20000000)/\(0<=q/\q<=20000000)):=⟨hp,hq⟩;have CL:=qH<|fun a b c w ha hb hc=>vS a b c p q w ha hb hc hp hq;clear h hM hp hq;go_enter func194,ntmps194;go_wp2;go_loopw[7,8] (fun s i wr=>∃(k:Nat) (x:Int),s=Iq x/\i=Iq k/\k<=n/\0<=x/\x<=(k:Int)*2000000000000/\Hid (x=lh k Mn Mx Wt p q)/\Bt w wr) (fun _ i _=>n-(intOf i).toNat);case atStart=>exact⟨0,0,rfl,rfl,aZ _,by omega,by omega,rfl,aj _ _⟩
 case round=>
  obtain⟨k,x,rfl,rfl,hk,x0,x1,HX,hbw⟩:=hrel;by_cases hlt:k<n
  ·have aN:(k:Int)<(n:Int):=by omega
   have eQ:=HW.below hbw;obtain⟨c0,c1,c2⟩:=eQ.2 k hlt;have hz:=eQ.1;have hm:=HM k;obtain⟨a1,ha1⟩:=ag (Mn k);obtain⟨a2,ha2⟩:=ag (Mx k);obtain⟨a3,ha3⟩:=ag (Wt k);rw[ha1]at c0;rw[ha2]at c1;rw[ha3]at c2;rw[ha1,ha2,ha3]at hm;obtain⟨d1,d2,d3,d4,d5⟩:=hm;have C:=CL a1 a2 a3 wr ⟨d1,by omega⟩ ⟨by omega,d3⟩ ⟨d4,d5⟩;obtain⟨lv,hlv⟩:=ag (gt a1 a2 a3 p q);have hlb:=GP (a:=a1) (b:=a2) (c:=a3) (p:=p) (q:=q) d1 (by omega) d3 d4 HPQ.1.1 HPQ.2.1 HPQ.2.2;rw[hlv]at C hlb;have HC:Hid _:=C;have Bq:Hid (x+lv=lh (k+1) Mn Mx Wt p q):=by show _=_;unfold lh;rw[l',dR,ha1,ha2,ha3,hlv];have:=HX.out;unfold lh at this;omega
   have l1:=hlb.1;have l2:=hlb.2;have Ag:((k+1:Nat):Int)*2000000000000=(k:Int)*2000000000000+2000000000000:=by omega
   have hzr:=hbw.size;clear eQ ha1 ha2 ha3 C hlv hlb HX;go_wp2_with fail;refine ao HC ?_;rintro e w5 ⟨rfl,b5⟩;have ri:=hbw.trans (b5.mono hzr);clear b5 hbw HC;go_wp2;go_roundw;case rel=>exact⟨k+1,x+lv,rfl,by go_num,by omega,by omega,by omega,Bq,ri⟩
   grind[intOf]
  ·have tD:¬(k:Int)<(n:Int):=by omega
   obtain rfl:n=k:=by omega
   have HE:Hid (Ending.returned (Iq x)=Rw (Iq (lh n Mn Mx Wt p q))):=by show _=_;rw[HX.out]
   clear HX;go_wp2;go_ret;exact⟨HE,hbw⟩
theorem LX(n blk off cap:Nat)(Mn Mx Wt:Nat->Int)(p q:Int)(w:World)(h:fg w blk off n Mn Mx Wt)(hn:n<=200)(hM:om Mn Mx Wt)(hp:0<=p/\p<=100000)(hq:0<=q/\q<=100000):
 Cw 193 #[.slice (some (az blk off)) n cap,Iq p,Iq q] w fun e w'=>e=Rw (.tuple #[Iq (xp n Mn Mx Wt p q),Iq (xo n Mn Mx Wt p q)])/\Bt w w':=by
 have HW:=qH<|h;have HM:=qH<|hM;have p0:=hp.1;have p1:=hp.2;have q0:=hq.1;have q1:=hq.2;clear h hM hp hq;go_enter func193,ntmps193;go_wp2;go_loopw[8,9,10] (fun s t i wr=>∃(k:Nat) (x y:Int),s=Iq x/\t=Iq y/\i=Iq k/\k<=n/\0<=x/\x<=(k:Int)*100000/\0<=y/\y<=(k:Int)*100000/\Hid (x=xp k Mn Mx Wt p q)/\Hid (y=xo k Mn Mx Wt p q)/\Bt w wr) (fun _ _ i _=>n-(intOf i).toNat);case atStart=>exact⟨0,0,0,rfl,rfl,rfl,aZ _,by omega,by omega,by omega,by omega,rfl,rfl,aj _ _⟩
 case round=>
  obtain⟨k,x,y,rfl,rfl,rfl,hk,x0,x1,y0,y1,HX,HY,hbw⟩:=hrel;by_cases hlt:k<n
  ·have aN:(k:Int)<(n:Int):=by omega
   have eQ:=HW.below hbw;obtain⟨c0,c1,c2⟩:=eQ.2 k hlt;have hz:=eQ.1;have hm:=HM k;obtain⟨a1,ha1⟩:=ag (Mn k);obtain⟨a2,ha2⟩:=ag (Mx k);obtain⟨a3,ha3⟩:=ag (Wt k);rw[ha1]at c0;rw[ha2]at c1;rw[ha3]at c2;rw[ha1,ha2,ha3]at hm;obtain⟨d1,d2,d3,d4,d5⟩:=hm;have Ag:((k+1:Nat):Int)*100000=(k:Int)*100000+100000:=by omega
   have hzr:=hbw.size;have YL:xp (k+1) Mn Mx Wt p q=x+(if rS a1 a2 a3 p q then a3 else 0):=by unfold xp;rw[l',dR,ha1,ha2,ha3];have:=HX.out;unfold xp at this;omega
   have YM:xo (k+1) Mn Mx Wt p q=y+(if rS a1 a2 a3 p q then a1 else if 0<a3 then a2 else a1):=by unfold xo;rw[l',dR,ha1,ha2,ha3];have:=HY.out;unfold xo at this;omega
   have h1:=ie d1 (show a1<=100000 by omega) q0 q1 (by omega);have h2:=ie (show 0<=a2 by omega) d3 q0 q1 (by omega);have h3:=ie p0 p1 d4 d5 (by omega);obtain⟨aq,Uc⟩:=ag (a1*q);obtain⟨bq,IQ⟩:=ag (a2*q);obtain⟨pc,Xb⟩:=ag (p*a3);have hrb:rS a1 a2 a3 p q=decide (0<a3/\aq+pc<bq):=by unfold rS;rw[Uc,IQ,Xb]
   rw[Uc]at h1;rw[IQ]at h2;rw[Xb]at h3;obtain⟨r1,r2⟩:=h1;obtain⟨r3,r4⟩:=h2;obtain⟨r5,r6⟩:=h3;rw[hrb]at YL YM;clear hrb eQ ha1 ha2 ha3 HX HY;by_cases k1:0<a3
   ·by_cases k2:aq+pc<bq
    ·have Bq:Hid (x+a3=xp (k+1) Mn Mx Wt p q):=by show _=_;rw[YL];simp[k1,k2]
     have HY2:Hid (y+a1=xo (k+1) Mn Mx Wt p q):=by show _=_;rw[YM];simp[k1,k2]
     clear YL YM;go_wp2;go_roundw;case rel=>exact⟨k+1,x+a3,y+a1,rfl,rfl,by go_num,by omega,by omega,by omega,by omega,by omega,Bq,HY2,hbw.alloc hzr _⟩
     grind[intOf]
    ·have Bq:Hid (x=xp (k+1) Mn Mx Wt p q):=by show _=_;rw[YL];simp[k2]
     have HY2:Hid (y+a2=xo (k+1) Mn Mx Wt p q):=by show _=_;rw[YM];simp[k1,k2]
     clear YL YM;go_wp2;go_roundw;case rel=>exact⟨k+1,x,y+a2,rfl,rfl,by go_num,by omega,by omega,by omega,by omega,by omega,Bq,HY2,hbw.alloc hzr _⟩
     grind[intOf]
   ·have Bq:Hid (x=xp (k+1) Mn Mx Wt p q):=by show _=_;rw[YL];simp[k1]
    have HY2:Hid (y+a1=xo (k+1) Mn Mx Wt p q):=by show _=_;rw[YM];simp[k1]
    clear YL YM;go_wp2;go_roundw;case rel=>exact⟨k+1,x,y+a1,rfl,rfl,by go_num,by omega,by omega,by omega,by omega,by omega,Bq,HY2,hbw.alloc hzr _⟩
    grind[intOf]
  ·have tD:¬(k:Int)<(n:Int):=by omega
   obtain rfl:n=k:=by omega
   have HE:Hid (Ending.returned (.tuple #[Iq x,Iq y])=Rw (.tuple #[Iq (xp n Mn Mx Wt p q),Iq (xo n Mn Mx Wt p q)])):=by show _=_;rw[HX.out,HY.out]
   clear HX HY;go_wp2;go_ret2;exact⟨HE,hbw⟩
theorem op_bds{n}{Mn Mx Wt}(hM:om Mn Mx Wt)(hn:n<=200)  p q  :0<=xp n Mn Mx Wt p q/\xp n Mn Mx Wt p q<=20000000/\0<=xo n Mn Mx Wt p q/\xo n Mn Mx Wt p q<=20000000:=by
 have a1:0<=xp n Mn Mx Wt p q:=cW fun j _=>by have:=hM j;omega
 have a2:xp n Mn Mx Wt p q<=((List.range n).length:Int)*100000:=fP fun j _=>by have:=hM j;omega
 have a3:0<=xo n Mn Mx Wt p q:=cW fun j _=>by have:=hM j;omega
 have a4:xo n Mn Mx Wt p q<=((List.range n).length:Int)*100000:=fP fun j _=>by have:=hM j;omega
 grind
def ya(n:Nat)(Mn Mx Wt:Nat->Int)(r:Int)(i:Nat):Prop:=(0<i->¬jD n Mn Mx Wt r 0 1)/\∀j,j+1<i->0<Wt j->¬jD n Mn Mx Wt r (Mx j-Mn j) (Wt j)
def Io(n:Nat)(Mn Mx Wt:Nat->Int)(r p q:Int):Prop:=(p=0/\q=0/\ya n Mn Mx Wt r (n+1))\/(0<q/\q<=20000000/\0<=p/\p<=100000/\lh n Mn Mx Wt p q=r*q)
theorem C9{n}{Mn Mx Wt}{r p q w b}(hw:xp n Mn Mx Wt p q=w)(hb:xo n Mn Mx Wt p q=b):jD n Mn Mx Wt r p q↔(w≠0/\0<=r-b/\p*w<=(r-b)*q/\lh n Mn Mx Wt (r-b) w=r*w):=by grind[jD]
theorem Em(n blk off cap:Nat)(Mn Mx Wt:Nat->Int)(r:Int)(w:World)(h:fg w blk off n Mn Mx Wt)(hn:n<=200)(hM:om Mn Mx Wt)(hr:0<=r/\r<=100000):
 Cw 160 #[.slice (some (az blk off)) n cap,Iq r] w fun e w'=>∃p q,e=Rw (.tuple #[Iq p,Iq q])/\Io n Mn Mx Wt r p q/\Bt w w':=by
 have HW:=qH<|h;have HM:=qH<|hM;have r0:=hr.1;have r1:=hr.2;have CO:=qH<|fun p q w h hp hq=>LX n blk off cap Mn Mx Wt p q w h hn hM hp hq;have CT:=qH<|fun p q w h hp hq=>Hj n blk off cap Mn Mx Wt p q w h hn hM hp hq;have X8:=qH<|op_bds hM hn;clear h hM hr;go_enter func160,ntmps160;go_wp2;go_loopw[6] (fun i wr=>∃k:Nat,i=Iq ((k:Int)-1)/\k<=n+1/\Hid (ya n Mn Mx Wt r k)/\Bt w wr) (fun i _=>((n:Int)-intOf i).toNat);case atStart=>exact⟨0,rfl,by omega,⟨fun h=>by omega,fun j hj=>by omega⟩,aj _ _⟩
 case round=>
  obtain⟨k,rfl,hk,JT,hbw⟩:=hrel;match k with
  |0=>
   have HBN:Hid (¬jD n Mn Mx Wt r 0 1->ya n Mn Mx Wt r (0+1)):=fun h=>⟨fun _=>h,fun j hj=>by omega⟩;have Yf:=HW.below hbw;have HBW:=qH<|hbw;have O7:((0:Nat):Int)-1<(n:Int):=by omega
   clear hbw JT;go_wp2_with fail;have HO:=CO 0 1 wr Yf ⟨by omega,by omega⟩ ⟨by omega,by omega⟩;have BH:=X8 0 1;obtain⟨ow,how⟩:=ag (xp n Mn Mx Wt 0 1);obtain⟨ob,Gp⟩:=ag (xo n Mn Mx Wt 0 1);rw[how,Gp]at HO BH;have HOc:=qH<|HO;have tm:=C9 (r:=r) how Gp;obtain⟨ow0,ow1,ob0,ob1⟩:=BH;clear HO how Gp;refine ao HOc ?_;rintro e w5 ⟨rfl,b5⟩;have rh:=HBW.trans (b5.mono HBW.size);have hs5:=rh.size;clear b5 HOc;by_cases cw:ow=0
   ·have HN:=qH<|HBN fun hg=>(tm.1 hg).1 cw;subst cw;clear tm HBN;go_wp2;go_roundw;case rel=>exact⟨0+1,by go_num,by omega,HN,rh⟩
    simp_all[intOf]
   ·have cw':(ow==0)=false:=by simpa using cw
    obtain⟨aa,haa⟩:=ag (r-ob);rw[haa]at tm;have aa1:aa<=100000:=by omega
    have aa0:-20000000<=aa:=by omega
    by_cases ca:aa<0
    ·have HN:=qH<|HBN fun hg=>by have:=(tm.1 hg).2.1;omega
     clear tm HBN;go_wp2;go_roundw;case rel=>exact⟨0+1,by go_num,by omega,HN,rh⟩
     simp_all[intOf]
    ·have HG:=tm;clear tm;by_cases cx:aa*1<0*ow;·exact absurd cx (by omega)
     ·have hT:=CT aa ow w5 (HW.below rh) ⟨by omega,by omega⟩ ⟨by omega,by omega⟩;obtain⟨tt,htt⟩:=ag (lh n Mn Mx Wt aa ow);obtain⟨rw,hrw⟩:=ag (r*ow);have rwb:=ie r0 r1 ow0 ow1 (by omega);rw[hrw]at rwb;obtain⟨rwc,rwd⟩:=rwb;rw[htt]at hT;have HT:=qH<|hT;have Fm:=qH<|htt;have oN:=qH<|hrw;have HN:=qH<|HBN.out;have XR:=qH<|fun hg=>(HG.1 hg).2.2.2;clear HG hT htt HBN;go_wp2_with fail;refine ao HT ?_;rintro e w6 ⟨rfl,b6⟩;have ri:=rh.trans (b6.mono hs5);clear b6 HT;by_cases cT:tt=rw;·have HR:Hid (Io n Mn Mx Wt r aa ow):=.inr ⟨by omega,ow1,by omega,by omega,by rw[Fm.out,oN.out];exact cT⟩;subst cT;clear rh Fm oN XR HN;go_wp2;go_ret2;exact⟨aa,ow,rfl,HR,ri⟩
      ·have HN2:=qH<|HN fun hg=>cT (by have:=XR hg;rw[Fm.out,oN.out]at this;exact this);have cT':(tt==rw)=false:=by simpa using cT
       clear rh Fm oN XR HN;go_wp2;go_roundw;case rel=>exact⟨0+1,by go_num,by omega,HN2,ri⟩
       case measure=>first|(simp[intOf];done)|(simp[intOf];omega)
  |j+1=>
   by_cases Af:j<n
   ·have hji:((j+1:Nat):Int)-1=(j:Int):=by omega
    rw[hji];have Y_:(j:Int)<(n:Int):=by omega
    have eQ:=HW.below hbw;obtain⟨c0,c1,c2⟩:=eQ.2 j Af;have hz:=eQ.1;have hm:=HM j;obtain⟨a1,ha1⟩:=ag (Mn j);obtain⟨a2,ha2⟩:=ag (Mx j);obtain⟨a3,ha3⟩:=ag (Wt j);obtain⟨pp,hpp⟩:=ag (a2-a1);rw[ha1]at c0;rw[ha2]at c1;rw[ha3]at c2;rw[ha1,ha2,ha3]at hm;obtain⟨d1,d2,d3,d4,d5⟩:=hm;have HBN:Hid (¬(0<a3/\jD n Mn Mx Wt r pp a3)->ya n Mn Mx Wt r (j+1+1)):=fun h=>by
     refine⟨fun _=>JT.1 (by omega),fun i hi UI=>?_⟩;by_cases e:i=j;·subst e;rw[ha1,ha2,ha3,hpp];rw[ha3]at UI;exact fun hg=>h ⟨UI,hg⟩
     ·exact JT.2 i (by omega) UI
    clear ha1 ha2 ha3 eQ JT;by_cases c3:a3=0
    ·have HN:=qH<|HBN (by omega);subst c3;clear HBN;go_wp2;go_roundw;case rel=>exact⟨j+1+1,by go_num,by omega,HN,hbw⟩
     case measure=>first|(simp[intOf];done)|(simp[intOf];omega)
    ·have c3':(a3==0)=false:=by simpa using c3
     have HBN2:Hid (¬jD n Mn Mx Wt r pp a3->ya n Mn Mx Wt r (j+1+1)):=fun h=>HBN fun hg=>h hg.2;clear HBN;have wpp:IntKind.i64.wrap pp=pp:=IntWalk.i64_in _ ⟨by omega,by omega⟩;have Yf:fg wr.drew blk off n Mn Mx Wt:=HW.below (below_drewN hbw 1);have HBW:Hid (Bt w wr.drew):=below_drewN hbw 1;have c2d:wr.drew.cell? (az blk (off+j*3+2))=some (Iq a3):=c2;have pp0:0<=pp:=by omega
     have pp1:pp<=100000:=by omega
     have a30:1<=a3:=by omega
     clear hbw;go_wp2_with fail;go_big_region;go_wp2_with fail;clear hpp;have HO:=CO pp a3 wr.drew Yf ⟨by omega,by omega⟩ ⟨by omega,by omega⟩;have BH:=X8 pp a3;obtain⟨ow,how⟩:=ag (xp n Mn Mx Wt pp a3);obtain⟨ob,Gp⟩:=ag (xo n Mn Mx Wt pp a3);rw[how,Gp]at HO BH;have HOc:=qH<|HO;have tm:=C9 (r:=r) how Gp;obtain⟨ow0,ow1,ob0,ob1⟩:=BH;clear HO how Gp;refine ao HOc ?_;rintro e w5 ⟨rfl,b5⟩;have rh:=HBW.trans (b5.mono HBW.size);have hs5:=rh.size;clear b5 HOc;by_cases cw:ow=0
     ·have HN:=qH<|HBN2 fun hg=>(tm.1 hg).1 cw;subst cw;clear tm HBN2;go_wp2;go_roundw;case rel=>exact⟨j+1+1,by go_num,by omega,HN,rh⟩
      case measure=>first|(simp[intOf];done)|(simp[intOf];omega)
     ·have cw':(ow==0)=false:=by simpa using cw
      obtain⟨aa,haa⟩:=ag (r-ob);rw[haa]at tm;have aa1:aa<=100000:=by omega
      have aa0:-20000000<=aa:=by omega
      by_cases ca:aa<0
      ·have HN:=qH<|HBN2 fun hg=>by have:=(tm.1 hg).2.1;omega
       clear tm HBN2;go_wp2;go_roundw;case rel=>exact⟨j+1+1,by go_num,by omega,HN,rh⟩
       case measure=>first|(simp[intOf];done)|(simp[intOf];omega)
      ·have HG:=tm;clear tm;obtain⟨x1,sC⟩:=ag (aa*a3);obtain⟨x2,nD⟩:=ag (pp*ow);rw[sC,nD]at HG;have x1b:=ie (show 0<=aa by omega) (show aa<=100000 by omega) (show 0<=a3 by omega) (show a3<=100000 by omega) (by omega);have x2b:=ie (show 0<=pp by omega) (show pp<=100000 by omega) (show 0<=ow by omega) ow1 (by omega);rw[sC]at x1b;rw[nD]at x2b;obtain⟨x1c,x1d⟩:=x1b;obtain⟨x2c,x2d⟩:=x2b;by_cases cx:x1<x2
       ·have HN:=qH<|HBN2 fun hg=>by have:=(HG.1 hg).2.2.1;omega
        clear HG HBN2;go_wp2;go_roundw;case rel=>exact⟨j+1+1,by go_num,by omega,HN,rh⟩
        case measure=>first|(simp[intOf];done)|(simp[intOf];omega)
       ·have hT:=CT aa ow w5 (HW.below rh) ⟨by omega,by omega⟩ ⟨by omega,by omega⟩;obtain⟨tt,htt⟩:=ag (lh n Mn Mx Wt aa ow);obtain⟨rw,hrw⟩:=ag (r*ow);have rwb:=ie r0 r1 ow0 ow1 (by omega);rw[hrw]at rwb;obtain⟨rwc,rwd⟩:=rwb;rw[htt]at hT;have HT:=qH<|hT;have Fm:=qH<|htt;have oN:=qH<|hrw;have HN:=qH<|HBN2.out;have XR:=qH<|fun hg=>(HG.1 hg).2.2.2;clear HG hT htt HBN2;go_wp2_with fail;refine ao HT ?_;rintro e w6 ⟨rfl,b6⟩;have ri:=rh.trans (b6.mono hs5);clear b6 HT;by_cases cT:tt=rw;·have HR:Hid (Io n Mn Mx Wt r aa ow):=.inr ⟨by omega,ow1,by omega,by omega,by rw[Fm.out,oN.out];exact cT⟩;subst cT;clear rh Fm oN XR HN;go_wp2;go_ret2;exact⟨aa,ow,rfl,HR,ri⟩
        ·have HN2:=qH<|HN fun hg=>cT (by have:=XR hg;rw[Fm.out,oN.out]at this;exact this);have cT':(tt==rw)=false:=by simpa using cT
         clear rh Fm oN XR HN;go_wp2;go_roundw;case rel=>exact⟨j+1+1,by go_num,by omega,HN2,ri⟩
         case measure=>first|(simp[intOf];done)|(simp[intOf];omega)
   ·obtain rfl:n=j:=by omega
    have Y_:¬((n+1:Nat):Int)-1<(n:Int):=by omega
    have HR:Hid (Io n Mn Mx Wt r 0 0):=.inl ⟨rfl,rfl,JT⟩;clear JT;go_wp2;go_ret2;exact⟨0,0,rfl,HR,hbw⟩
theorem NH.set{w wr}{cw lb n k}{mn mx wt}(h:NH w wr cw lb n k mn mx wt)(hk:k<n)(bZ:lb≠cw)(hB:w.heap.size<=lb):NH w (wr.setCell (az lb (0+k)) (Iq (mn k))) cw lb n (k+1) mn mx wt:=by refine⟨(h.len.set k (mn k) hk).congr fun j hj=>?_,h.want.other _ _ _ bZ,h.bel.setCell hB _⟩;grind[qX]
theorem Q0  g   n c  (hc:c<n)  v  :aG (qX g c v) (List.range n)=aG g (List.range n)-g c+v:=by
 have e:aG (qX g c v) (List.range n)=aG g (List.range n)+aG (fun j=>if j∈[c]then v-g j else 0) (List.range n):=by
  rw[<-gD];refine bG fun j _=>?_;unfold qX;by_cases e:j=c;·grind
  ·simp[e]
 rw[e,qI (by simp) (fun j hj=>by grind)];rw[cm,qJ];omega
structure B7(n:Nat)(mn:Nat->Int)(r:Int)(c:Nat)(s:Int)(g:Nat->Int):Prop where
 ahead:∀j,j<c->g j=mn j
 bd:∀j,j<n->0<=g j/\g j<=mn j
 sum:s=aG g (List.range n)
 ge:r<=s
 zero:r<s->∀j,c<=j->j<n->g j=0
 behind:∀i k,i<k->k<n->g i<mn i->g k=0
theorem B7.next{n}{mn}{r}{c}{s}{g}(h:B7 n mn r (c+1) s g)(hc:c<n)(MR:r<s)  y  (hy:y=min (s-r) (g c)):B7 n mn r c (s-y) (qX g c (g c-y)):=by
 have hb:=h.bd c hc;have bZ:∀j,j≠c->qX g c (g c-y) j=g j:=fun j e=>by grind[qX]
 have _4:qX g c (g c-y) c=g c-y:=by unfold qX;rw[if_pos rfl]
 refine⟨fun j hj=>?_,fun j hj=>?_,?_,by omega,fun hlt j h1 h2=>?_,fun i k SE hk hlt=>?_⟩;·rw[bZ j (by omega)];exact h.ahead j (by omega)
 ·by_cases e:j=c;·grind
  ·rw[bZ j e];exact h.bd j hj
 ·rw[Q0 g n c hc,<-h.sum];omega
 ·by_cases e:j=c;·grind
  ·rw[bZ j e];exact h.zero MR j (by omega) h2
 ·by_cases e:k=c;·subst e;rw[bZ i (by omega),h.ahead i (by omega)]at hlt;omega
  ·rw[bZ k e];by_cases e2:k<c;·rw[bZ i (by omega),h.ahead i (by omega)]at hlt;omega
   ·exact h.zero MR k (by omega) hk
theorem B7.back{n}{mn}{r}{c}{s}{g}(h:B7 n mn r c s g)(hr:0<=r)(he:c=0\/s<=r):tk n mn r g:=by
 refine⟨h.bd,?_,h.behind⟩;by_cases e:r<s
 ·rcases he with e2|e2
  ·subst e2;have hz:aG g (List.range n)<=0:=by
    have:aG g (List.range n)<=((List.range n).length:Int)*0:=fP fun j hj=>by rw[h.zero e j (by omega) (by grind)];omega
    omega
   have:=h.sum;omega
  ·omega
 ·have:=h.sum;have:=h.ge;omega
theorem rShrunk_any(n blk cap:Nat)(Mn Mx Wt:Nat->Int)(r:Int)(w:World)(h:fg w blk 0 n Mn Mx Wt)(hn:n<=200)(hM:om Mn Mx Wt)(hr:0<=r/\r<=100000)(hlt:r<aG Mn (List.range n)):
 Calls prog 159 #[Sq blk n cap,Iq r] w fun e w'=>e=.returned (Sq w.heap.size n n)/\(∃g,dh w' w.heap.size 0 n g/\tk n Mn r g)/\Below w.heap.size w w':=by
 have HW:=qH<|h;have HM:=qH<|hM;have HLT:=qH<|hlt;have r0:=hr.1;have r1:=hr.2;have hzb:=h.1;have iU:=run_make_row' (P:=prog) 61 3 (Iq 0) 8 underlying61 iV rfl .i64 .i64 n (by omega) (by omega);clear h hM hr hlt;go_enter func159,ntmps159;go_wp2;have S0:Hid (NH w (w.alloc (.cells (madeCells #[Iq 0] n) 3)) blk w.heap.size n 0 Mn Mx Wt):=by
  have b1:Below w.heap.size w (w.alloc (.cells (madeCells #[Iq 0] n) 3)):=(aj _ w).alloc (ai _) _;refine⟨⟨by simp,fun j hj=>⟨?_,?_⟩⟩,HW.below b1,b1⟩;·rw[World.cell?_alloc_at _ _ _ _ rfl];simp[madeCells,hj,zn]
  ·simp_all
 obtain⟨lb,hlb⟩:=ag w.heap.size;have Wj:Hid (∀k,aG Mn (List.range (k+1))=aG Mn (List.range k)+Mn k):=fun k=>by rw[l',dR]
 have YH:w.heap.size<=lb:=by omega
 have hbl:blk<lb:=by omega
 have Tb:=qH<|hlb;rw[hlb]at S0⊢;clear iU HW;go_loopw[6,7] (fun s i wr=>∃(k:Nat) (x:Int),s=Iq x/\i=Iq k/\k<=n/\0<=x/\x<=(k:Int)*100000/\Hid (x=aG Mn (List.range k))/\Hid (NH w wr blk lb n k Mn Mx Wt)) (fun _ i _=>n-(intOf i).toNat);case atStart=>exact⟨0,0,rfl,rfl,aZ _,by omega,by omega,rfl,S0⟩
 case round=>
  obtain⟨k,x,rfl,rfl,hk,x0,x1,HX,HS⟩:=hrel;by_cases hlt:k<n
  ·have aN:(k:Int)<(n:Int):=by omega
   have hs:=HS.out;have Zk:=Wj k;have _2:=(hs.want.2 k hlt).1;rw[bM]at _2;obtain⟨a1,ha1⟩:=ag (Mn k);have iU:=HM k;rw[ha1]at Zk _2 iU;have hzc:=hs.want.1;have UK:=hs.len.1;have Yt:wr.cell? (az lb k)=some (Iq 0):=by have:=(hs.len.2 k hlt).1;dsimp only at this;rw[if_neg (by omega),bM]at this;exact this
   have fl1:wr.frozen? (az lb k)=false:=by have:=(hs.len.2 k hlt).2;rw[bM]at this;exact this
   have Bq:Hid (x+a1=aG Mn (List.range (k+1))):=by show _=_;rw[Zk,HX.out]
   have HN:Hid (NH w (wr.setCell (az lb k) (Iq a1)) blk lb n (k+1) Mn Mx Wt):=by have:=hs.set hlt (by omega) (by omega);rw[ha1,bM]at this;exact this
   have og:=iU.1;have hm2:a1<=100000:=by omega
   have Ag:((k+1:Nat):Int)*100000=(k:Int)*100000+100000:=by omega
   clear hs Zk ha1 iU HX HS;go_wp2;go_roundw;case rel=>exact⟨k+1,x+a1,rfl,by go_num,by omega,by omega,by omega,Bq,HN⟩
   grind[intOf]
  ·have tD:¬(k:Int)<(n:Int):=by omega
   obtain rfl:n=k:=by omega
   have hs:=HS.out;have hrow:=hs.len.congr fun j hj=>by rw[if_pos hj]
   have I0:Hid (B7 n Mn r n x Mn):=⟨fun _ _=>rfl,fun j _=>by have:=HM j;omega,HX,by rw[HX.out];exact JH HLT,fun _ j h1 h2=>by omega,fun i k _ _ h=>by omega⟩;have R0:Hid (dh wr lb 0 n Mn/\Below w.heap.size w wr):=⟨hrow,hs.bel⟩;clear hs hrow HX HS;go_wp2;go_loopw[6,8] (fun s i wq=>∃(c:Nat) (x:Int) (g:Nat->Int),s=Iq x/\i=Iq ((c:Int)-1)/\c<=n/\0<=x/\x<=20000000/\Hid (B7 n Mn r c x g)/\Hid (dh wq lb 0 n g/\Below w.heap.size w wq)) (fun _ i _=>(intOf i+1).toNat);case atStart=>grind
   case round=>
    obtain⟨c,s,g,rfl,rfl,hc,s0,s1,HI,HR⟩:=hrel;by_cases oX:0<c/\r<s
    ·obtain⟨hc0,MR⟩:=oX;obtain⟨d,rfl⟩:∃d,c=d+1:=⟨c-1,by omega⟩;have Fv:d<n:=by omega
     have Fu:((d+1:Nat):Int)-1=(d:Int):=by omega
     rw[Fu];have zpo:(d:Int)<(n:Int):=by omega
     have Sx:(0:Int)<=(d:Int):=by omega
     have lQ:=(HR.1.2 d Fv);rw[bM]at lQ;have nC:=HI.bd d Fv;have hmm:=HM d;obtain⟨x2,nD⟩:=ag (g d);rw[nD]at lQ nC;obtain⟨Yt,fl1⟩:=lQ;have b1:=nC.1;have b2:x2<=100000:=by omega
     obtain⟨sr,FD⟩:=ag (s-r);have Si:Hid (∀y,y=min sr x2->B7 n Mn r d (s-y) (qX g d (x2-y))/\dh (wr.setCell (az lb d) (Iq (x2-y))) lb 0 n (qX g d (x2-y))/\Below w.heap.size w (wr.setCell (az lb d) (Iq (x2-y)))):=fun y hy=>by have h1:=HI.next Fv MR y (by rw[FD,nD];exact hy);rw[nD]at h1;have h2:=HR.1.set d (x2-y) Fv;rw[bM]at h2;exact⟨h1,h2,HR.2.setCell YH _⟩
     clear nC hmm nD HI HR Fu;by_cases Di:x2<sr
     ·have hN:=Si x2 (by omega);have HN1:=qH<|hN.1;have HN2:Hid (dh (wr.setCell (az lb d) (Iq 0)) lb 0 n (qX g d (x2-x2))/\Below w.heap.size w (wr.setCell (az lb d) (Iq 0))):=by have:=hN.2;rw[Int.sub_self]at this⊢;exact this
      clear hN Si;go_wp2;grind[intOf]
     ·have hN:=Si sr (by omega);have HN1:=qH<|hN.1;have HN2:=qH<|hN.2;clear hN Si;go_wp2;grind[intOf]
    ·have HF:Hid (∃g,dh wr lb 0 n g/\tk n Mn r g):=⟨g,HR.1,HI.back r0 (by omega)⟩;have HB:=qH<|HR.2;clear HI HR;by_cases hc0:0<c
     ·have hle:¬r<s:=by omega
      have hc1:(0:Int)<=(c:Int)-1:=by omega
      go_wp2;go_ret;exact⟨rfl,HF,by rw[<-Tb.out];exact HB⟩
     ·have hc1:¬(0:Int)<=(c:Int)-1:=by omega
      go_wp2;go_ret;exact⟨rfl,HF,by rw[<-Tb.out];exact HB⟩
theorem yC:(prog.info? 236).map (fun i=>(i.zero,i.size,i.bytes))=some (some (.agg #[Iq 0,Iq 0,Iq 0]),3,24):=by kernel_rfl
theorem Ug(a b c:Nat->Int):om (fun j=>cl (a j)) (fun j=>eO (a j) (b j)) (fun j=>cl (c j)):=fun j=>
 ⟨(dU _).1,(iP _ _).1,(iP _ _).2,(dU _).1,(dU _).2⟩
theorem vP{w w'}{B n size}{e}{v}{xs}(h:w.ownsRow B e size v n xs)(hb:Bt w w'):w'.ownsRow B e size v n xs:=by
 refine⟨h.1,?_⟩;rcases h.2 with h2|⟨g,cap,ik,a,b,c,d⟩;·exact .inl h2
 ·exact .inr ⟨g,cap,ik,a,b,by rw[hb.block g (aM.1 c).1];exact c,d⟩
theorem none_of{n}{Mn Mx Wt}{r}{g}(hM:om Mn Mx Wt)(hsp:cO n Mn Mx Wt r g)(hle:aG Mn (List.range n)<=r)(hbad:ya n Mn Mx Wt r (n+1)):∀j,j<n->g j=if 0<Wt j then Mx j else Mn j:=by
 have hw:=fun j=>(hM j).2.1;have hp:=fun j=>(hM j).2.2.2.1;rcases hsp with⟨h1,_⟩|⟨_,A,S,L,V,m,h⟩;·omega
 ·obtain⟨nA,nS,hd,fA,fS,ef⟩:=h.facts;by_cases hS:S=[];·subst hS;intro j hj;rw[h.is j hj];grind
  ·exfalso;rcases h.cand hw hp hS with h1|⟨i,hi,wi,h1⟩;·exact hbad.1 (by omega) h1
   ·exact hbad.2 i (by omega) wi h1
structure V0(w wr:World)(lw ob n k:Nat)(mn mx wt g:Nat->Int):Prop where
 len:dh wr ob 0 n (fun j=>if j<k then g j else 0)
 want:fg wr lw 0 n mn mx wt
 bel:Bt w wr
theorem wR{g:Nat->Int}{k}  v  (hv:v=g k):∀j,qX (fun j=>if j<k then g j else 0) k v j=if j<k+1 then g j else 0:=fun j=>by grind[qX]
theorem VR  g   k   x v  :qX (qX g k x) k v=qX g k v:=by grind[qX]
theorem V0.set{w wr}{lw ob n k}{mn mx wt g}(h:V0 w wr lw ob n k mn mx wt g)(hk:k<n)(bZ:ob≠lw)(hB:w.heap.size<=ob)  v  (hv:v=g k):V0 w (wr.setCell (az ob k) (Iq v)) lw ob n (k+1) mn mx wt g:=by have h1:=h.len.set k v hk;rw[bM]at h1;exact⟨h1.congr fun j _=>wR v hv j,h.want.other _ _ _ bZ,h.bel.setCell hB _⟩
theorem V0.set2{w wr}{lw ob n k}{mn mx wt g}(h:V0 w wr lw ob n k mn mx wt g)(hk:k<n)(bZ:ob≠lw)(hB:w.heap.size<=ob)  x v  (hv:v=g k):V0 w ((wr.setCell (az ob k) (Iq x)).setCell (az ob k) (Iq v)) lw ob n (k+1) mn mx wt g:=by have h1:=(h.len.set k x hk).set k v hk;rw[bM,VR]at h1;exact⟨h1.congr fun j _=>wR v hv j,(h.want.other _ _ _ bZ).other _ _ _ bZ,(h.bel.setCell hB _).setCell hB _⟩
structure Tn(w wr:World)(lw ob rb n k:Nat)(mn mx wt base rest:Nat->Int):Prop where
 len:dh wr ob 0 n (fun j=>if j<k then base j else 0)
 res:dh wr rb 0 n (fun j=>if j<k then rest j else 0)
 want:fg wr lw 0 n mn mx wt
 bel:Bt w wr
theorem Tn.below{w W W'}{lw ob rb n k}{mn mx wt base rest}(h:Tn w W lw ob rb n k mn mx wt base rest)(hb:Bt W W'):Tn w W' lw ob rb n k mn mx wt base rest:=
 ⟨h.len.below hb,h.res.below hb,h.want.below hb,h.bel.trans (hb.mono h.bel.size)⟩
theorem Tn.set{w wr}{lw ob rb n k}{mn mx wt base rest}(h:Tn w wr lw ob rb n k mn mx wt base rest)(hk:k<n)(h1:lw<ob)(h2:ob<rb)(hB:w.heap.size<=ob)  x y  (hx:x=base k) (hy:y=rest k):Tn w ((wr.setCell (az ob k) (Iq x)).setCell (az rb k) (Iq y)) lw ob rb n (k+1) mn mx wt base rest:=by have a1:=(h.len.set k x hk);have a2:=((h.res.other ob k (Iq x) (by omega)).set k y hk);rw[bM]at a1 a2;exact⟨(a1.other _ _ _ (by omega)).congr fun j _=>wR x hx j,a2.congr fun j _=>wR y hy j,(h.want.other _ _ _ (by omega)).other _ _ _ (by omega),(h.bel.setCell hB _).setCell (by grind) _⟩
structure Tq(w wr:World)(ob rb n:Nat)(base rest:Nat->Int)(S:List Nat)(t:Nat):Prop where
 len:dh wr ob 0 n (fun j=>base j+(if j∈S.take t then 1 else 0))
 res:dh wr rb 0 n (fun j=>if j∈S.take t then-1 else rest j)
 bel:Bt w wr
theorem Tq.below{w W W'}{ob rb n}{base rest}{S}{t}(h:Tq w W ob rb n base rest S t)(hb:Bt W W'):Tq w W' ob rb n base rest S t:=
 ⟨h.len.below hb,h.res.below hb,h.bel.trans (hb.mono h.bel.size)⟩
theorem Tq.next{w wr}{ob rb n}{base rest}{S}{t}(h:Tq w wr ob rb n base rest S t)(hS:S.Nodup)(ht:t<S.length)  i  (hi:S[t]?.getD 0=i) (gA:i<n) (h2:ob<rb) (hB:w.heap.size<=ob):
 Tq w ((wr.setCell (az ob i) (Iq (base i+1))).setCell (az rb i) (Iq (-1))) ob rb n base rest S (t+1):=by
 have Xi:=fQ S t ht;have W9:=gQ hS ht;rw[hi]at Xi W9;have hm:∀j,j∈S.take (t+1)↔j∈S.take t\/j=i:=fun j=>by rw[Xi];simp
 have a1:=(h.len.set i (base i+1) gA);have a2:=((h.res.other ob i (Iq (base i+1)) (by omega)).set i (-1) gA);rw[bM]at a1 a2;refine⟨(a1.other _ _ _ (by omega)).congr fun j _=>?_,a2.congr fun j _=>?_,(h.bel.setCell hB _).setCell (by grind) _⟩;all_goals grind[qX]
theorem N4  f  :pF 1 f 0:=⟨by omega,fun j hj=>by grind,fun j hj=>by omega⟩
theorem best_up{f}{i b}(h:pF i f b)(c:f b<f i):pF (i+1) f i:=
 ⟨by omega,fun j hj=>by
  by_cases e:j=i;·rw[e];exact li _
  ·have:=h.top j (by omega);omega,fun j hj=>by have:=h.top j hj;omega⟩
theorem best_stay{f}{i b}(h:pF i f b)(c:¬f b<f i):pF (i+1) f b:=
 ⟨by have:=h.lt;omega,fun j hj=>by
  by_cases e:j=i;·rw[e];omega
  ·exact h.top j (by omega),h.first⟩
theorem m5(n blk off cap:Nat)(a b c:Nat->Int)(aY cj:Int)(w:World)(h:fg w blk off n a b c)(Do:0<n)(hn:n<=200)(g:Nat->Int)(hsp:cO n (fun j=>cl (a j)) (fun j=>eO (a j) (b j)) (fun j=>cl (c j)) (rm aY cj n) g):
 Cw 77 #[Iq aY,Iq cj,.slice (some (az blk off)) n cap] w fun e w'=>∃ob,e=Rw (Sq ob n n)/\w.heap.size<=ob/\dh w' ob 0 n g/\Bt w w':=by
 obtain⟨i0,hi,eG,fs,gd⟩:=info_parts yC;have HW:=qH<|h;have C3:=qH<|rHeld_any;have CR:=qH<|fun w=>L4 aY cj n Do hn w;obtain⟨r,hr⟩:=ag (rm aY cj n);have MQ:=yU aY cj n;have hr1:=QL aY cj n Do;rw[hr]at CR MQ hr1 hsp;obtain⟨mn,Dn⟩:∃f:Nat->Int,(fun j=>cl (a j))=f:=⟨_,rfl⟩;obtain⟨mx,qT⟩:∃f:Nat->Int,(fun j=>eO (a j) (b j))=f:=⟨_,rfl⟩;obtain⟨wt,hwt⟩:∃f:Nat->Int,(fun j=>cl (c j))=f:=⟨_,rfl⟩;have hM:=Ug a b c;have Hmn:Hid (∀j,cl (a j)=mn j):=fun j=>by rw[<-Dn]
 have Hmx:Hid (∀j,eO (a j) (b j)=mx j):=fun j=>by rw[<-qT]
 have Hwt:Hid (∀j,cl (c j)=wt j):=fun j=>by rw[<-hwt]
 rw[Dn,qT,hwt]at hsp hM;have HM:=qH<|hM;have BU:=qH<|hsp;go_enter func77,ntmps77;go_wp2;go_loopw[7,8,9] (fun v s i wr=>∃(k:Nat) (x:Int),s=Iq x/\i=Iq k/\k<=n/\0<=x/\x<=(k:Int)*100000/\Hid (x=aG mn (List.range k))/\wr.ownsRow w.heap.size 236 3 v k (fT mn mx wt k)/\Bt w wr) (fun _ _ i _=>n-(intOf i).toNat);case atStart=>exact⟨0,0,rfl,rfl,aZ _,by omega,by omega,rfl,gF _ _ _ _,aj _ _⟩
 case round=>
  obtain⟨k,x,rfl,rfl,hk,x0,x1,HX,bu,hbw⟩:=hrel;by_cases hlt:k<n
  ·have aN:(k:Int)<(n:Int):=by omega
   have eQ:=HW.below hbw;obtain⟨c0,c1,c2⟩:=eQ.2 k hlt;have hm:=HM k;have e1:=Hmn k;have e2:=Hmx k;have e3:=Hwt k;obtain⟨a1,ha1⟩:=ag (a k);obtain⟨a2,ha2⟩:=ag (b k);obtain⟨a3,ha3⟩:=ag (c k);obtain⟨m1,og⟩:=ag (mn k);obtain⟨m2,hm2⟩:=ag (mx k);obtain⟨m3,La⟩:=ag (wt k);rw[ha1]at c0;rw[ha2]at c1;rw[ha3]at c2;rw[ha1,og]at e1;rw[ha1,ha2,hm2]at e2;rw[ha3,La]at e3;rw[og,hm2,La]at hm;obtain⟨d1,d2,d3,d4,d5⟩:=hm;have CH:=qH<|fun w=>by have:=C3 a1 a2 a3 w;rw[e1,e2,e3]at this;exact this
   have HS:Hid (fT mn mx wt (k+1)=fT mn mx wt k++[Iq m1,Iq m2,Iq m3]):=by show _=_;rw[fT,og,hm2,La]
   have Bq:Hid (x+m1=aG mn (List.range (k+1))):=by show _=_;rw[l',dR,<-HX.out,og]
   have hzr:=hbw.size;go_wp2_with fail;refine(CH _).mono ?_;rintro e w5 ⟨rfl,b5⟩;have ri:=hbw.trans (b5.mono hzr);have Ds:=vP bu b5;have hz5:=b5.size;go_wp2_with(at_builtin;refine wpList_append_own _ rfl _ _ 149 rfl w.heap.size 236 i0 (.agg #[Iq 0,Iq 0,Iq 0]) 3 24 underlying149 hi eG fs gd rfl (by decide) _ _ _ rfl ((Ds.alloc _).alloc _) _ 1 1 [Iq m1,Iq m2,Iq m3] rfl rfl ?c1 ?c2 ?c3 ?c4 ?c5 ?_);case c1=>intro j u hj;have:=uN (w5.alloc (.cells #[Iq m1,Iq m2,Iq m3] 236)) (Iq m1) (Iq m2) (Iq m3) 236 j u hj;simp_all
   case c2=>intro u hu;simp at hu;rcases hu with rfl|rfl|rfl<;>rfl
   case c3=>unfold maxLen;omega
   case c4=>omega
   case c5=>simp;omega
   intro v' w6 bD hg _;have hrow:=fun q hq=>Ds.lt q hq;have Gf:=((ri.alloc (by omega) _).alloc (by simp;omega) _).grown hg (by simp;omega) (fun q hq=>(hrow q hq).1);have cx:w6.cell? (az w5.heap.size 0)=some (Iq m1):=by refine hg.cell ?_ (fun e=>by have:w.heap.size<=w5.heap.size/\w5.heap.size<w5.heap.size:=hrow _ e.symm;omega);rw[World.cell?_alloc_past _ _ _ (by simp),World.cell?_alloc_at _ _ _ _ rfl];rfl
   go_wp2;go_roundw;case rel=>exact⟨k+1,x+m1,rfl,by go_num,by omega,by omega,by omega,Bq,by rw[HS.out];exact bD,Gf⟩
   grind[intOf]
  ·have tD:¬(k:Int)<(n:Int):=by omega
   obtain rfl:n=k:=by omega
   obtain⟨p,cp,rfl,tH⟩:=E7 bu;obtain⟨lw,rfl,zpT,hlw⟩:=tH.resolve_left (by omega);have HLW:=qH<|hlw;have HBW:=qH<|hbw;have UK:=hlw.1;have hzr:=hbw.size;obtain⟨w3,rfl⟩:=TN wr;by_cases Po:r<x
   ·have CS:=qH<|rShrunk_any n lw cp mn mx wt r w3 HLW hn HM ⟨MQ,hr1⟩ (by rw[<-HX.out];exact Po);have HBk:Hid (tk n mn r g):=by
     rcases BU.out with⟨_,hb⟩|⟨h1,_⟩;·exact hb
     ·rw[<-HX.out]at h1;omega
    go_wp2_with(first|(go_at_call 158;refine(CR _).mono ?_;rintro e w5 ⟨rfl,qU⟩;obtain rfl:=qU.symm)|(go_at_call 159;fail));refine CS.mono ?_;rintro e w2 ⟨rfl,⟨g2,hf,WP⟩,hb⟩;have HF:=qH<|hf.congr (WP.uniq HBk);have HB2:=qH<|HBW.trans (hb.mono hzr);go_wp2;go_ret;exact⟨_,rfl,hzr,HF,HB2⟩
   ·have hle:aG mn (List.range n)<=r:=by rw[<-HX.out];omega
    have HLe:=qH<|hle;have CP:=qH<|fun w h=>Em n lw 0 cp mn mx wt r w h hn HM ⟨MQ,hr1⟩;have iU:=run_make_row' (P:=prog) 61 3 (Iq 0) 8 underlying61 iV rfl .i64 .i64 n (by omega) (by omega);obtain⟨ob,BH⟩:=ag w3.heap.size;obtain⟨w4,Du⟩:=ag (w3.alloc (.cells (madeCells #[Iq 0] n) 3));have MI:Bt w3 w4:=by rw[<-Du];exact(aj _ _).alloc (ai _) _
    have hs4:w4.heap.size=ob+1:=by rw[<-Du,<-BH];simp
    have HR4:Hid (dh w4 ob 0 n (fun _=>0)):=by
     rw[<-Du];refine⟨by simp;omega,fun j hj=>⟨?_,?_⟩⟩;·rw[World.cell?_alloc_at _ _ _ _ BH.symm];simp[madeCells,hj,zn]
     ·rw[World.frozen?_alloc_at _ _ _ _ BH.symm]
    have HLW4:=qH<|HLW.below MI;have HBW4:=qH<|HBW.trans (MI.mono hzr);have CP4:=qH<|CP w4 HLW4;go_wp2_with(first|(go_at_call 158;refine(CR _).mono ?_;rintro e w5 ⟨rfl,qU⟩;obtain rfl:=qU.symm)|(go_at_call 160;fail));refine CP4.mono ?_;rintro e w5 ⟨p,q,rfl,Xc,rh⟩;have tU:=qH<|HR4.below rh;have Td:=qH<|HLW4.below rh;have Na:=qH<|HBW4.trans (rh.mono (by omega));have hs5:=rh.size;have Lf:w.heap.size<=ob:=by omega
    have zij:lw<ob:=by omega
    have zqc:ob<w5.heap.size:=by omega
    clear rh MI Du BH hs4 CP CP4 HR4 HLW4 HBW4 HLW HBW;rcases Xc with⟨rfl,rfl,hbad⟩|⟨Zj,tF,I5,Pj,zc'⟩
    ·have HG:=qH<|none_of HM BU HLe hbad;clear hbad;have G0:Hid (V0 w w5 lw ob n 0 mn mx wt g):=⟨tU.congr fun j _=>by simp,Td,Na⟩;clear tU Td Na;go_wp2;go_loopw[15] (fun i wr=>∃k:Nat,i=Iq k/\k<=n/\Hid (V0 w wr lw ob n k mn mx wt g)) (fun i _=>n-(intOf i).toNat);case atStart=>grind
     case round=>
      obtain⟨k,rfl,hk,HGS⟩:=hrel;by_cases hlt:k<n
      ·have aN:(k:Int)<(n:Int):=by omega
       have hs:=HGS.out;obtain⟨f0,f1,f2⟩:=hs.want.2 k hlt;have Gk:=HG k hlt;obtain⟨m1,og⟩:=ag (mn k);obtain⟨m2,hm2⟩:=ag (mx k);obtain⟨m3,La⟩:=ag (wt k);rw[og,bM]at f0;rw[hm2,bM]at f1;rw[La,bM]at f2;rw[og,hm2,La]at Gk;have hzw:=hs.want.1;have Xl:=hs.len.1;have Yt:wr.cell? (az ob k)=some (Iq 0):=by have:=(hs.len.2 k hlt).1;dsimp only at this;rw[if_neg (by omega),bM]at this;exact this
       have fl1:wr.frozen? (az ob k)=false:=by have:=(hs.len.2 k hlt).2;rw[bM]at this;exact this
       by_cases fZ:0<m3
       ·rw[if_pos fZ]at Gk;have HN:=qH<|hs.set2 hlt (by omega) Lf m1 m2 Gk.symm;clear hs Gk og hm2 La HGS;go_wp2;go_roundw;case rel=>exact⟨k+1,by go_num,by omega,HN⟩
        case measure=>simp[intOf];omega
       ·rw[if_neg fZ]at Gk;have HN:=qH<|hs.set hlt (by omega) Lf m1 Gk.symm;clear hs Gk og hm2 La HGS;go_wp2;go_roundw;case rel=>exact⟨k+1,by go_num,by omega,HN⟩
        case measure=>simp[intOf];omega
      ·have tD:¬(k:Int)<(n:Int):=by omega
       obtain rfl:n=k:=by omega
       have HF:=qH<|HGS.len.congr fun j hj=>by rw[if_pos hj]
       have HB:=qH<|HGS.bel;clear HGS;go_wp2;go_ret;exact⟨_,rfl,Lf,HF,HB⟩
    ·obtain⟨S,m,base,rest,hP⟩:=mZ HM BU HLe Zj zc';have HP:=qH<|hP;have HBb:Hid (∀j,j<n->0<=base j/\base j<=100000):=fun j hj=>by have hm:=HM j;have h1:=GP (a:=mn j) (b:=mx j) (c:=wt j) (p:=p) (q:=q) hm.1 (by omega) hm.2.2.1 hm.2.2.2.1 I5 (by omega) tF;have h2:=(uh (mn j) (mx j) (wt j) p q).1;rw[<-hP.base_ j hj];refine⟨E' h1.1 (by omega),?_⟩;have h3:=Int.ediv_le_ediv Zj h2;rw[JQ _ (by omega)]at h3;omega
     have _z:Hid (∀j,j<n->0<=rest j/\rest j<q):=fun j hj=>by rw[<-hP.rest_ j hj];exact⟨E_ _ (by omega),JJ _ Zj⟩
     have HLv:Hid (∀j,j<n->∀w,Cw 161 #[.agg #[Iq (mn j),Iq (mx j),Iq (wt j)],Iq p,Iq q] w fun e w'=>e=Rw (Iq (gt (mn j) (mx j) (wt j) p q))/\Bt w w'):=fun j hj w=>by have hm:=HM j;exact vS (mn j) (mx j) (wt j) p q w ⟨hm.1,by omega⟩ ⟨by omega,hm.2.2.1⟩ ⟨hm.2.2.2.1,hm.2.2.2.2⟩ ⟨I5,by omega⟩ ⟨by omega,tF⟩
     clear hP zc';have Zi:(q==0)=false:=by simp;omega
     have zqr:¬q=0:=by omega
     obtain⟨rb,hrb⟩:=ag w5.heap.size;obtain⟨w6,SO⟩:=ag (w5.alloc (.cells (madeCells #[Iq 0] n) 3));have zcV:ob<rb:=by omega
     have H0:Hid (Tn w w6 lw ob rb n 0 mn mx wt base rest):=by
      have ri:Bt w5 w6:=by rw[<-SO];exact(aj _ _).alloc (ai _) _
      refine⟨(tU.below ri).congr fun j _=>by simp,⟨by rw[<-SO];simp;omega,fun j hj=>⟨?_,?_⟩⟩,Td.below ri,Na.trans (ri.mono Na.size)⟩;·rw[<-SO,World.cell?_alloc_at _ _ _ _ hrb.symm];simp[madeCells,hj,zn]
      ·rw[<-SO,World.frozen?_alloc_at _ _ _ _ hrb.symm]
     clear tU Td Na;go_wp2;go_loopw[17,18] (fun l i wr=>∃(k:Nat) (x:Int),l=Iq x/\i=Iq k/\k<=n/\-20000000<=x/\x<=100000/\Hid (x=r-aG base (List.range k))/\Hid (Tn w wr lw ob rb n k mn mx wt base rest)) (fun _ i _=>n-(intOf i).toNat);case atStart=>exact⟨0,r,rfl,rfl,aZ _,by omega,by omega,by simp[Hid,aG],H0⟩
     case round=>
      obtain⟨k,x,rfl,rfl,hk,xl,xu,HX,_o⟩:=hrel;by_cases hlt:k<n
      ·have aN:(k:Int)<(n:Int):=by omega
       have hs:=_o.out;obtain⟨f0,f1,f2⟩:=hs.want.2 k hlt;have CL:=HLv k hlt wr;have qS:=HBb k hlt;have hrr:=_z k hlt;have eb:=HP.base_ k hlt;have er:=HP.rest_ k hlt;have hm:=HM k;have hlb:=GP (a:=mn k) (b:=mx k) (c:=wt k) (p:=p) (q:=q) hm.1 (by omega) hm.2.2.1 hm.2.2.2.1 I5 (by omega) tF;obtain⟨m1,og⟩:=ag (mn k);obtain⟨m2,hm2⟩:=ag (mx k);obtain⟨m3,La⟩:=ag (wt k);obtain⟨bs,hbs⟩:=ag (base k);obtain⟨rs,MR⟩:=ag (rest k);rw[og,bM]at f0;rw[hm2,bM]at f1;rw[La,bM]at f2;rw[og,hm2,La]at CL eb er hlb;obtain⟨lv,hlv⟩:=ag (gt m1 m2 m3 p q);rw[hlv]at CL eb er hlb;rw[hbs]at qS eb;rw[MR]at hrr er;have HCL:Hid _:=CL;have UG:lv.tdiv q=bs:=by rw[xc hlb.1,eb]
       have htm:lv.tmod q=rs:=by rw[R6 hlb.1,er]
       obtain⟨l1,l2⟩:=hlb;obtain⟨b1,b2⟩:=qS;obtain⟨r1,r2⟩:=hrr;have Bq:Hid (x-bs=r-aG base (List.range (k+1))):=by show _=_;rw[l',dR,HX.out,hbs];omega
       have zqQ:-20000000<=x-bs:=by rw[Bq.out];have:aG base (List.range (k+1))<=((List.range (k+1)).length:Int)*100000:=fP fun j hj=>(HBb j (by have:=zm.1 hj;omega)).2;rw[JK]at this;omega
       have HN:Hid (∀W',Bt wr W'->Tn w ((W'.setCell (az ob k) (Iq bs)).setCell (az rb k) (Iq rs)) lw ob rb n (k+1) mn mx wt base rest):=fun W' hb=>(hs.below hb).set hlt zij zcV Lf bs rs hbs.symm MR.symm;have Xl:=hs.len.1;have zdm:=hs.res.1;have co1:wr.cell? (az ob k)=some (Iq 0):=by have:=(hs.len.2 k hlt).1;dsimp only at this;rw[if_neg (by omega),bM]at this;exact this
       have fo1:wr.frozen? (az ob k)=false:=by have:=(hs.len.2 k hlt).2;rw[bM]at this;exact this
       have cr1:wr.cell? (az rb k)=some (Iq 0):=by have:=(hs.res.2 k hlt).1;dsimp only at this;rw[if_neg (by omega),bM]at this;exact this
       have fr1:wr.frozen? (az rb k)=false:=by have:=(hs.res.2 k hlt).2;rw[bM]at this;exact this
       have hzw:=hs.want.1;clear hs CL hm og hm2 La hbs MR hlv HX _o;go_wp2_with fail;refine ao HCL ?_;rintro e w7 ⟨rfl,b7⟩;have co2:=(b7.cell (p:=(az ob k)) Xl).trans co1;have fo2:=(b7.frozen (p:=(az ob k)) Xl).trans fo1;have cr2:=(b7.cell (p:=(az rb k)) zdm).trans cr1;have fr2:=(b7.frozen (p:=(az rb k)) zdm).trans fr1;have HN7:=HN w7 b7;have HN8:Hid _:=HN7;clear b7 HN HN7 HCL co1 fo1 cr1 fr1;go_wp2;go_roundw;case rel=>exact⟨k+1,x-bs,rfl,by go_num,by omega,by omega,by omega,Bq,HN8⟩
       case measure=>simp[intOf];omega
      ·have tD:¬(k:Int)<(n:Int):=by omega
       obtain rfl:n=k:=by omega
       have hxm:x=(m:Int):=by rw[HX.out];exact HP.left
       have K0:Hid (Tq w wr ob rb n base rest S 0):=⟨_o.len.congr fun j hj=>by simp[hj],_o.res.congr fun j hj=>by simp[hj],_o.bel⟩;clear HX _o;subst hxm;go_wp2;go_loopw[17] (fun l wr=>∃t:Nat,l=Iq ((m:Int)-t)/\t<=m/\Hid (Tq w wr ob rb n base rest S t)) (fun l _=>(intOf l).toNat);case atStart=>exact⟨0,by simp,aZ _,K0⟩
       case round=>
        obtain⟨t,rfl,ht,HK⟩:=hrel;by_cases hlt:t<m
        ·have fZ:(0:Int)<(m:Int)-t:=by omega
         have Pr:=zz008 hlt HP.le;obtain⟨i,hi⟩:=ag (S[t]?.getD 0);have gA:=HP.lt i (by rw[<-hi];exact tZ Pr);have hbest:=HP.best t hlt;rw[hi]at hbest;obtain⟨f,hf⟩:∃f:Nat->Int,(fun j=>if j∈S.take t then-1 else rest j)=f:=⟨_,rfl⟩;rw[hf]at hbest;have zaE:=qH<|hbest;have hres:dh wr rb 0 n f:=by have:=HK.res;rw[hf]at this;exact this
         have za6:=qH<|hres;have zqS:=hres.1;have HKn:Hid (∀W',Bt wr W'->Tq w ((W'.setCell (az ob i) (Iq (base i+1))).setCell (az rb i) (Iq (-1))) ob rb n base rest S (t+1)):=fun W' hb=>(HK.below hb).next HP.nodup Pr i hi gA zcV Lf;have rx:i∉S.take t:=by rw[<-hi];exact gQ HP.nodup Pr
         have hco:=HK.len.2 i gA;dsimp only at hco;rw[if_neg rx,bM,Ff]at hco;have Xl:=HK.len.1;have qS:=HBb i gA;obtain⟨bs,hbs⟩:=ag (base i);rw[hbs]at hco qS HKn;obtain⟨co1,fo1⟩:=hco;obtain⟨b1,b2⟩:=qS;have zcE:(i:Int)<(n:Int):=by omega
         have zlU:¬(m:Int)<=t:=by omega
         clear hbest hf hres rx hbs HK;obtain⟨w8,rfl⟩:=TN wr;go_wp2;go_loopw[20,21] (fun b j wq=>∃bb ii:Nat,b=Iq bb/\j=Iq ii/\1<=ii/\ii<=n/\bb<n/\Hid (pF ii f bb)/\Bt w8 wq) (fun _ j _=>n-(intOf j).toNat);case atStart=>exact⟨0,1,rfl,rfl,by omega,by omega,by omega,N4 f,aj _ _⟩
         case round=>
          obtain⟨bb,ii,rfl,rfl,BE,pW,Ft,Nb,IQ⟩:=hrel;by_cases mM:ii<n
          ·have hl1:(ii:Int)<(n:Int):=by omega
           have yA:(bb:Int)<(n:Int):=by omega
           have Xg:=za6.below IQ;have cA:=(Xg.2 ii mM).1;have cB:=(Xg.2 bb Ft).1;rw[bM]at cA cB;obtain⟨fa,IU⟩:=ag (f ii);obtain⟨fb,rl⟩:=ag (f bb);rw[IU]at cA;rw[rl]at cB;have hzq:=Xg.1;by_cases Di:fb<fa
           ·have HB2:=qH<|best_up Nb (by rw[IU,rl];exact Di);clear Xg IU rl Nb;go_wp2_with fail;go_quiet(fail);go_wp2;go_roundw;case rel=>exact⟨ii,ii+1,rfl,by go_num,by omega,by omega,by omega,HB2,below_drewN IQ _⟩
            case measure=>simp[intOf];omega
           ·have HB2:=qH<|best_stay Nb (by rw[IU,rl];exact Di);clear Xg IU rl Nb;go_wp2_with fail;go_quiet(fail);go_wp2;go_roundw;case rel=>exact⟨bb,ii+1,rfl,by go_num,by omega,by omega,by omega,HB2,below_drewN IQ _⟩
            case measure=>simp[intOf];omega
          ·have hl1:¬(ii:Int)<(n:Int):=by omega
           have _9:ii=n:=by omega
           have hbi:bb=i:=by have h1:=Nb.out;rw[_9]at h1;exact h1.uniq zaE
           subst hbi;have co2:=(IQ.cell (p:=(az ob bb)) Xl).trans co1;have fo2:=(IQ.frozen (p:=(az ob bb)) Xl).trans fo1;have Xg:=za6.below IQ;have xf:=Xg.2 bb gA;rw[bM]at xf;obtain⟨fa,IU⟩:=ag (f bb);rw[IU]at xf;obtain⟨cr2,fr2⟩:=xf;have HN:Hid _:=HKn wr IQ;clear Xg IU Nb _9 co1 fo1 IQ HKn;go_wp2;go_roundw;case rel=>exact⟨t+1,by go_num,by omega,HN⟩
           case measure=>simp[intOf];omega
        ·obtain rfl:m=t:=by omega
         have eG:¬(0:Int)<(m:Int)-m:=by omega
         have HF:=qH<|HK.len.congr fun j hj=>(HP.is j hj).symm;have HB:=qH<|HK.bel;clear HK;go_wp2;go_ret;exact⟨_,rfl,Lf,HF,HB⟩
theorem rOpen_nil(p q:Int)(w:World):
 Cw 193 #[.slice none 0 0,Iq p,Iq q] w fun e w'=>e=Rw (.tuple #[Iq 0,Iq 0])/\w'=w:=by
 go_enter func193,ntmps193;go_wp2;go_loop[8,9,10] (fun s t i=>s=Iq 0/\t=Iq 0/\i=Iq 0) (fun _ _ _=>0);case atStart=>grind
 case round=>obtain⟨rfl,rfl,rfl⟩:=hrel;go_wp2;go_ret2;simp_all
theorem rPoured_nil(r:Int)(w:World):
 Cw 160 #[.slice none 0 0,Iq r] w fun e w'=>e=Rw (.tuple #[Iq 0,Iq 0])/\w'=w:=by
 have CO:=qH<|rOpen_nil 0 1;go_enter func160,ntmps160;go_wp2;go_loop[6] (fun i=>i=Iq (-1)\/i=Iq 0) (fun i=>(0-intOf i).toNat);case atStart=>grind
 case round=>
  rcases hrel with rfl|rfl;·go_wp2_with(go_at_call 193;refine(CO _).mono ?_;rintro e w5 ⟨rfl,qU⟩;obtain rfl:=qU.symm);simp_all[intOf]
  ·go_wp2;go_ret2;simp_all
theorem m6(p:Option Addr)(cap:Nat)(aY cj:Int)(w:World):
 Cw 77 #[Iq aY,Iq cj,.slice p 0 cap] w fun e w'=>∃q,e=Rw (.slice q 0 0)/\Bt w w':=by
 have CR:Hid (∀w,Cw 158 #[Iq aY,Iq cj,Iq 0] w fun e w'=>e=Rw (Iq (cl aY))/\w'=w):=fun w=>yT aY cj 0 (by omega) w;obtain⟨cr,xf⟩:=ag (cl aY);have b:=dU aY;rw[xf]at CR b;have b1:=b.1;have b2:¬cr<0:=by omega
 clear xf b;have CP:=qH<|rPoured_nil cr;have iU:∀u:World,(Instr.makeSlice 61 (Iq 0) (Iq 0)).run prog u=.ok (Sq u.heap.size 0 0) (u.alloc (.cells (madeCells #[Iq 0] 0) 3)):=fun u=>run_make_row' (P:=prog) 61 3 (Iq 0) 8 underlying61 iV rfl .i64 .i64 0 (by omega) (by omega) u;go_enter func77,ntmps77;go_wp2;go_loop[7,8,9] (fun v s i=>v=.slice none 0 0/\s=Iq 0/\i=Iq 0) (fun _ _ _=>0);case atStart=>grind
 case round=>
  obtain⟨rfl,rfl,rfl⟩:=hrel;go_wp2_with(first|(go_at_call 158;refine(CR _).mono ?_;rintro e w5 ⟨rfl,qU⟩;obtain rfl:=qU.symm)|(go_at_call 160;refine(CP _).mono ?_;rintro e w5 ⟨rfl,qU⟩;obtain rfl:=qU.symm));go_loop[15] (fun i=>i=Iq 0) (fun _=>0);case atStart=>exact rfl
  case round=>obtain rfl:=hrel;go_wp2;go_ret;exact⟨⟨_,rfl⟩,(aj _ _).alloc (ai _) _⟩
structure Tt(w wr:World)(lb ob n k:Nat)(g:Nat->Int)(cg:Int):Prop where
 len:dh wr lb 0 n g
 out:dh wr ob 0 n (fun j=>if j<k then cR g cg j else 0)
 bel:Bt w wr
theorem Tt.below{w W W'}{lb ob n k}{g}{cg}(h:Tt w W lb ob n k g cg)(hb:Bt W W'):Tt w W' lb ob n k g cg:=⟨h.len.below hb,h.out.below hb,h.bel.trans (hb.mono h.bel.size)⟩
theorem Tt.set{w wr}{lb ob n k}{g}{cg}(h:Tt w wr lb ob n k g cg)(hk:k<n)(bZ:lb<ob)(hB:w.heap.size<=ob):Tt w (wr.setCell (az ob k) (Iq (cR g cg k))) lb ob n (k+1) g cg:=by have h1:=h.out.set k (cR g cg k) hk;rw[bM]at h1;exact⟨h.len.other _ _ _ (by omega),h1.congr fun j _=>wR (g:=fun j=>cR g cg j) _ rfl j,h.bel.setCell hB _⟩
theorem LW(v:Value)(aY cj:Int)(w:World)(p:Option Addr)(C:Cw 77 #[Iq aY,Iq cj,v] w fun e w'=>∃q,e=Rw (.slice q 0 0)/\Bt w w'):
 Cw 79 #[Iq aY,Iq cj,v] w fun e w'=>∃q,e=Rw (.slice q 0 0)/\Bt w w':=by
 have HC:Hid (Cw 77 #[Iq aY,Iq cj,v] w fun e w'=>∃q,e=Rw (.slice q 0 0)/\Bt w w'):=C;have iU:∀u:World,(Instr.makeSlice 61 (Iq 0) (Iq 0)).run prog u=.ok (Sq u.heap.size 0 0) (u.alloc (.cells (madeCells #[Iq 0] 0) 3)):=fun u=>run_make_row' (P:=prog) 61 3 (Iq 0) 8 underlying61 iV rfl .i64 .i64 0 (by omega) (by omega) u;clear C;go_enter func79,ntmps79;go_wp2_with fail;refine HC.out.mono ?_;rintro e w1 ⟨q,rfl,b1⟩;have HB:Hid (Bt w (w1.alloc (.cells (madeCells #[Iq 0] 0) 3))):=b1.alloc b1.size _;clear b1;go_wp2;go_loop[9,10] (fun s i=>s=Iq 0/\i=Iq 0) (fun _ _=>0);case atStart=>grind
 case round=>obtain⟨rfl,rfl⟩:=hrel;go_wp2;go_ret;exact⟨⟨_,rfl⟩,HB.out⟩
theorem LV(n blk off cap:Nat)(a b c:Nat->Int)(aY cj:Int)(w:World)(h:fg w blk off n a b c)(Do:0<n)(hn:n<=200)(g:Nat->Int)(hsp:cO n (fun j=>cl (a j)) (fun j=>eO (a j) (b j)) (fun j=>cl (c j)) (rm aY cj n) g):
 Cw 79 #[Iq aY,Iq cj,.slice (some (az blk off)) n cap] w fun e w'=>∃ob,e=Rw (Sq ob n n)/\w.heap.size<=ob/\dh w' ob 0 n (cR g (cl cj))/\Bt w w':=by
 have CS:Hid (Cw 77 #[Iq aY,Iq cj,.slice (some (az blk off)) n cap] w fun e w'=>∃ob,e=Rw (Sq ob n n)/\w.heap.size<=ob/\dh w' ob 0 n g/\Bt w w'):=m5 n blk off cap a b c aY cj w h Do hn g hsp;have CC:Hid (∀w,Cw 88 #[Iq cj] w fun e w'=>e=Rw (Iq (cl cj))/\w'=w):=fun w=>rCl_any cj w;have nC:∀j,j<n->0<=g j/\g j<=100000:=fun j hj=>by have h1:=(hsp.tiles (ic a b c)).1 j hj;have h2:=ic a b c j;omega
 have yy:=dU cj;obtain⟨cg,K3⟩:=ag (cl cj);rw[K3]at CC yy⊢;have cg0:=yy.1;have cg1:=yy.2;have HGB:Hid (∀j,j<n->0<=g j/\g j<=100000):=nC;have X8:Hid (∀k,k<=n->0<=cR g cg k/\cR g cg k<=(k:Int)*200000):=fun k hk=>nP nC ⟨cg0,cg1⟩ k hk;have iU:=run_make_row' (P:=prog) 61 3 (Iq 0) 8 underlying61 iV rfl .i64 .i64 n (by omega) (by omega);clear h hsp nC K3 yy;go_enter func79,ntmps79;go_wp2_with fail;refine CS.out.mono ?_;rintro e w1 ⟨lb,rfl,hlb,hrow,hb1⟩;have UK:=hrow.1;have fs:=hb1.size;obtain⟨ob,BH⟩:=ag w1.heap.size;obtain⟨w2,vt⟩:=ag (w1.alloc (.cells (madeCells #[Iq 0] n) 3));have O0:Hid (Tt w w2 lb ob n 0 g cg):=by
  have b2:Bt w1 w2:=by rw[<-vt];exact(aj _ _).alloc (ai _) _
  refine⟨hrow.below b2,⟨by rw[<-vt];simp;omega,fun j hj=>⟨?_,?_⟩⟩,hb1.trans (b2.mono fs)⟩;·rw[<-vt,World.cell?_alloc_at _ _ _ _ BH.symm];simp[madeCells,hj,zn]
  ·rw[<-vt,World.frozen?_alloc_at _ _ _ _ BH.symm]
 have pE:lb<ob:=by omega
 have hBo:w.heap.size<=ob:=by omega
 clear hrow hb1 CS;go_wp2;go_loopw[9,10] (fun s i wr=>∃k:Nat,s=Iq (cR g cg k)/\i=Iq k/\k<=n/\Hid (Tt w wr lb ob n k g cg)) (fun _ i _=>n-(intOf i).toNat);case atStart=>exact⟨0,rfl,rfl,aZ _,O0.out⟩
 case round=>
  obtain⟨k,rfl,rfl,hk,HO⟩:=hrel;by_cases hlt:k<n
  ·have aN:(k:Int)<(n:Int):=by omega
   have hs:=HO.out;have hc:=(hs.len.2 k hlt).1;have hd:=hs.out.2 k hlt;dsimp only at hd;rw[if_neg (by omega),bM]at hd;rw[bM]at hc;have Gk:=HGB.out k hlt;have Zf:=X8.out k hk;have Dq:=nQ g cg k;have HN:Hid (Tt w (wr.setCell (az ob k) (Iq (cR g cg k))) lb ob n (k+1) g cg):=hs.set hlt pE hBo;obtain⟨gk,Ae⟩:=ag (g k);rw[Ae]at hc Gk Dq;obtain⟨o1,Pg⟩:=ag (cR g cg k);rw[Pg]at Zf Dq HN⊢;have HNX:Hid (cR g cg (k+1)=o1+gk+cg):=by show _=_;rw[Dq];omega
   obtain⟨d1,d2⟩:=hd;obtain⟨gk0,gk1⟩:=Gk;obtain⟨o10,o11⟩:=Zf;have hzb:=hs.len.1;have Xl:=hs.out.1;have wv1:IntKind.i64.wrap (o1+gk)=o1+gk:=IntWalk.i64_in _ ⟨by omega,by omega⟩;have wv2:IntKind.i64.wrap (o1+gk+cg)=o1+gk+cg:=IntWalk.i64_in _ ⟨by omega,by omega⟩;clear hs Ae Pg Dq HO;go_wp2_with fail;go_quiet(first|(go_at_call 88;exact Calls.quiet_of_same (CC.out _)));go_wp2;go_roundw;case rel=>exact⟨k+1,by rw[HNX.out],by go_num,by omega,HN.out.below (below_drewN (aj _ _) _)⟩
   grind[intOf]
  ·have tD:¬(k:Int)<(n:Int):=by omega
   obtain rfl:n=k:=by omega
   have HF:Hid (dh wr ob 0 n (cR g cg)):=HO.out.out.congr fun j hj=>by rw[if_pos hj]
   have HB:Hid (Bt w wr):=HO.out.bel;clear HO;go_wp2;go_ret;exact⟨_,rfl,hBo,HF.out,HB.out⟩
