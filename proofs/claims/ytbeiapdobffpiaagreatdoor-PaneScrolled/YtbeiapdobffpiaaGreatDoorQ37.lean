import Derived.Shelf.SortM.Plain
import Derived.Shelf.SortM.SortNone
import Derived.Test.YtbeiapdobffpiaaGreatDoorQ18
set_option linter.all false
set_option maxRecDepth 100000
set_option maxHeartbeats 16000000
namespace Go.Proofs.YtbeiapdobffpiaaGreatDoor
end Go.Proofs.YtbeiapdobffpiaaGreatDoor
namespace Go.Proofs
open Go.Shelf
shelf_lay_g SlLaysM.n5 Slgm 5 at Tryz 61 as Tryz.sortLaid
end Go.Proofs
namespace Go.Proofs.YtbeiapdobffpiaaGreatDoor
section
open Go.RowKit Go.Sort Go.Proofs.Tryz
theorem grownBy_sorted{w:World}{g n off}{os}  d  :w.grownBy (grow (putRow (Value.int .i64) (Sort.ahead w n) g off d) os) (some g):=by refine⟨rfl,rfl,rfl,by simp,fun k hk bG=>?_⟩;rw[heap_grow_old _ _ (by simpa using hk)];have:g≠k:=fun e=>bG (by rw[e]);simp[putRow,mapBlock,Sort.ahead,Array.getElem?_modify,this]
theorem sV  zs   blk off al n   w  (h:a_ w blk off zs) (hn:zs.length=n) (bH:n<=1099511627776):
 Cw 61 #[.slice (some (az blk off)) n al] w fun e w'=>e=Rw (.tuple #[])/\a_ w' blk off (zs.mergeSort fun x y=>decide (x<=y))/\w.grownBy w' (some blk):=by
 subst hn;have hH:Holds (Value.int .i64) w blk off zs.toArray:=fun j hj=>by
  have hj':j<zs.length:=by simpa using hj
  refine⟨?_,(h.2 j hj').2⟩;rw[(h.2 j hj').1];grind
 refine(AnyM.slices_Sort_int Tryz.sortLaid blk off al zs w hH h.1 (by omega)).mono ?_;rintro e w' ⟨he,q,os,rfl⟩;refine⟨he,?_,grownBy_sorted _⟩;obtain⟨ms,oW⟩:=aj (zs.mergeSort fun x y=>decide (x<=y));have Gt:ms.length=zs.length:=by rw[<-oW];exact(Mz _ _).length_eq
 rw[oW];have h1:Holds (Value.int .i64) (putRow (Value.int .i64) (Sort.ahead w q) blk off ms.toArray) blk off ms.toArray:=holds_putRow _ _ _ _ zs.toArray _ hH (by omega);have hX:blk<(putRow (Value.int .i64) (Sort.ahead w q) blk off ms.toArray).heap.size:=by simpa using h.1
 have hB:Below (putRow (Value.int .i64) (Sort.ahead w q) blk off ms.toArray).heap.size (putRow (Value.int .i64) (Sort.ahead w q) blk off ms.toArray) (grow (putRow (Value.int .i64) (Sort.ahead w q) blk off ms.toArray) os):=
  ⟨rfl,rfl,rfl,by simp,fun k hk=>heap_grow_old _ _ hk⟩;refine⟨bn hX hB.size,fun j hj=>?_⟩;have:=h1 j (by omega);refine⟨(hB.cell (p:=(az blk (off+j))) hX).trans (this.1.trans ?_),(hB.frozen (p:=(az blk (off+j))) hX).trans this.2⟩;simp[hj]
def cG(W:World)(blk off n:Nat)(g:Nat->Int):Prop:=blk<W.heap.size/\∀j,j<n->W.cell? (az blk (off+j))=some (Iq (g j))/\W.frozen? (az blk (off+j))=false
def oH(g:Nat->Int)(i:Nat)(y:Int):Nat->Int:=fun k=>if k=i then y else g k
theorem cG.set{W}{blk off n}{g}(h:cG W blk off n g)  i   y  (hi:i<n):cG (W.setCell (az blk (off+i)) (Iq y)) blk off n (oH g i y):=by
 refine⟨by simpa using h.1,fun k hk=>?_⟩;simp only[gN];refine⟨?_,(h.2 k hk).2⟩;rw[xt _ _ _ _ _ ⟨_,(h.2 i hi).1⟩];unfold oH;by_cases e:k=i;·grind
 ·rw[if_neg e,if_neg (by omega)];exact(h.2 k hk).1
theorem cG.other{W}{blk off n}{g}(h:cG W blk off n g)  b o   v  (hb:b≠blk):cG (W.setCell (az b o) v) blk off n g:=by refine⟨by simpa using h.1,fun k hk=>?_⟩;simp only[gN];refine⟨?_,(h.2 k hk).2⟩;rw[dX _ _ _ _ (fun e=>hb (by grind)),(h.2 k hk).1]
theorem cG.congr{W}{blk off n}{g g'}(h:cG W blk off n g)(e:∀j,j<n->g j=g' j):cG W blk off n g':=
 ⟨h.1,fun j hj=>by rw[<-e j hj];exact h.2 j hj⟩
theorem cG.below{A B}{blk off n}{g}(h:cG A blk off n g)(hb:Bt A B):cG B blk off n g:=
 ⟨bn h.1 hb.size,fun j hj=>⟨(hb.cell (p:=(az blk (off+j))) h.1).trans (h.2 j hj).1,(hb.frozen (p:=(az blk (off+j))) h.1).trans (h.2 j hj).2⟩⟩
theorem wJ{A B:World}{r b o}(hb:A.grownBy B (some r))(hl:b<A.heap.size)(hn:b≠r):B.frozen? (az b o)=A.frozen? (az b o):=by unfold World.frozen?;rw[hb.block b hl (fun e=>hn (by injection e))]
theorem cG.grown{A B}{blk off n r}{g}(h:cG A blk off n g)(hb:A.grownBy B (some r))(hn:blk≠r):cG B blk off n g:=
 ⟨bn h.1 hb.size,fun j hj=>⟨hb.cell (h.2 j hj).1 (by simpa using hn),(wJ hb h.1 hn).trans (h.2 j hj).2⟩⟩
theorem eD.other{W}{blk off n}{a b c}(h:eD W blk off n a b c)  r o   v  (hb:r≠blk):eD (W.setCell (az r o) v) blk off n a b c:=by have k:∀p,(W.setCell (az r o) v).cell? (az blk p)=W.cell? (az blk p):=fun p=>dX _ _ _ _ (fun e=>hb (by grind));refine⟨by simpa using h.1,fun j hj=>by rw[k,k,k];exact h.2 j hj⟩
theorem a_.other{W}{blk off}{d}(h:a_ W blk off d)  b o   v  (hb:b≠blk):a_ (W.setCell (az b o) v) blk off d:=by refine⟨by simpa using h.1,fun k hk=>?_⟩;simp only[gN];refine⟨?_,(h.2 k hk).2⟩;rw[dX _ _ _ _ (fun e=>hb (by grind)),(h.2 k hk).1]
theorem As{Q}(hq:Q.Nodup):∃A,((dp Q).mergeSort fun x y=>decide (x<=y))=dp A/\A.Perm Q/\A.Pairwise (·<·):=by
 obtain⟨A,hA,hp⟩:=pi (Mz (dp Q) fun x y=>decide (x<=y));refine⟨A,hA,hp,?_⟩;have hs:(dp A).Pairwise (fun x y=>decide (x<=y)=true):=by rw[<-hA];exact List.pairwise_mergeSort (fun a b c h1 h2=>by grind) (fun a b=>by simp;omega) _
 unfold dp at hs;rw[Mr]at hs;have hn:=hp.nodup_iff.2 hq;refine(hs.and hn).imp fun h=>?_;grind
structure Nb(w wr:World)(n lb lo wb wo ob oo B fb:Nat)(Mn Mx Wt g:Nat->Int)(A:List Nat)(L V:Int)(k:Nat):Prop where
 len:cG wr lb lo n (fun j=>if j∈A.take k then g j+L*Wt j/V else g j)
 frac:cG wr fb 0 n (fun j=>if j∈A.take k then L*Wt j %V else 0)
 open_:a_ wr ob oo (dp A)
 want:eD wr wb wo n Mn Mx Wt
 box:wr.cell? (az (fb+1) 0)=some (Sq fb n n)
 size:fb+1<wr.heap.size
 bel:Below B w wr
theorem re{A}{k}(hk:k<A.length):(dp A)[k]?.getD 0=((A[k]?.getD 0:Nat):Int):=by simp[dp,hk]
theorem eU(A:List Nat)  k  (hk:k<A.length):A.take (k+1)=A.take k++[A[k]?.getD 0]:=by simp_all
theorem qR{A:List Nat}{k}(hk:k<A.length):A[k]?.getD 0∈A:=by grind
theorem fL{A:List Nat}{k}(hA:A.Nodup)(hk:k<A.length):A[k]?.getD 0∉A.take k:=by have h:=hA.sublist (List.take_sublist (k+1) A);grind[eU]
theorem Nb.next{w wr}{n lb lo wb wo ob oo B fb}{Mn Mx Wt g}{A}{L V}{k}(h:Nb w wr n lb lo wb wo ob oo B fb Mn Mx Wt g A L V k)(hA:A.Nodup)(hk:k<A.length)  i  (hi:A[k]?.getD 0=i) (iV:i<n) (h1:lb≠ob) (h2:lb≠wb) (h3:lb<fb) (h4:ob<fb) (h5:wb<fb) (jo:B<=lb) (lU:B<=fb):
 Nb w ((wr.setCell (az lb (lo+i)) (Iq (g i+L*Wt i/V))).setCell (az fb (0+i)) (Iq (L*Wt i %V))) n lb lo wb wo ob oo B fb Mn Mx Wt g A L V (k+1):=by
 have ht:=eU A k hk;have QX:=fL hA hk;rw[hi]at ht QX;have hm:∀j,j∈A.take (k+1)↔j∈A.take k\/j=i:=fun j=>by rw[ht];simp
 refine⟨?_,?_,?_,?_,?_,?_,?_⟩;·refine((h.len.set i (g i+L*Wt i/V) iV).other _ _ _ (by omega)).congr fun j hj=>?_;grind[oH]
 ·refine((h.frac.other lb (lo+i) (Iq (g i+L*Wt i/V)) (by omega)).set i _ iV).congr fun j hj=>?_;grind[oH]
 ·exact(h.open_.other _ _ _ h1).other _ _ _ (by omega)
 ·exact(h.want.other _ _ _ h2).other _ _ _ (by omega)
 ·rw[dX _ _ _ _ (fun e=>by grind),dX _ _ _ _ (fun e=>by grind)];exact h.box
 ·simpa using h.size
 ·exact(h.bel.setCell jo _).setCell lU _
theorem Nb.below{w W W'}{n lb lo wb wo ob oo B fb}{Mn Mx Wt g}{A}{L V}{k}(h:Nb w W n lb lo wb wo ob oo B fb Mn Mx Wt g A L V k)(hb:Bt W W')(hB:B<=fb):Nb w W' n lb lo wb wo ob oo B fb Mn Mx Wt g A L V k:=
 ⟨h.len.below hb,h.frac.below hb,h.open_.below hb,h.want.below hb,(hb.cell (p:=(az (fb+1) 0)) h.size).trans h.box,bn h.size hb.size,h.bel.trans (hb.mono (by have:=h.size;omega))⟩
theorem Ht{f}{A}(h:∀j∈A,0<=f j)  k  :aA f (A.take k)<=aA f A:=by
 have e:aA f A=aA f (A.take k)+aA f (A.drop k):=by rw[<-ld,gO]
 have:0<=aA f (A.drop k):=cy fun j hj=>h j (ke hj);omega
structure Uc(w wr:World)(n lb lo ob oo B:Nat)(h:Nat->Int)(S:List Nat)(k:Nat):Prop where
 len:cG wr lb lo n (fun j=>if j∈S.take k then h j+1 else h j)
 open_:a_ wr ob oo (dp S)
 bel:Below B w wr
theorem Uc.next{w wr}{n lb lo ob oo B}{h}{S}{k}(H:Uc w wr n lb lo ob oo B h S k)(hS:S.Nodup)(hk:k<S.length)  i  (hi:S[k]?.getD 0=i) (iV:i<n) (h1:lb≠ob) (jo:B<=lb):
 Uc w (wr.setCell (az lb (lo+i)) (Iq (h i+1))) n lb lo ob oo B h S (k+1):=by
 have ht:=eU S k hk;have QX:=fL hS hk;rw[hi]at ht QX;have hm:∀j,j∈S.take (k+1)↔j∈S.take k\/j=i:=fun j=>by rw[ht];simp
 refine⟨?_,H.open_.other _ _ _ h1,H.bel.setCell jo _⟩;refine(H.len.set i (h i+1) iV).congr fun j hj=>?_;grind[oH]
theorem gI:(prog.info? 3).map (fun i=>(i.zero,i.size,i.bytes))=some (some (Iq 0),1,8):=by kernel_rfl
theorem yy(n lb lo lc wb wo wc ob oo oc B nq:Nat)(Mn Mx Wt g:Nat->Int)(Q:List Nat)(L V:Int)(w:World)(hl:cG w lb lo n g)(hw:eD w wb wo n Mn Mx Wt)(ho:a_ w ob oo (dp Q))
 (h1:lb≠ob) (h2:lb≠wb) (h3:wb≠ob) (jo:B<=lb) (lU:B<=ob) (Cm:B<=w.heap.size) (hQ:Q.Nodup) (hQn:∀j∈Q,j<n) (bG:Q≠[]) (hnq:Q.length=nq) (zkc:nq<=1073741824) (hqc:nq<=oc) (hoc:oc<=maxLen)
 (hn:n<=1073741824) (hL:0<=L/\L<=1073741824) (hV:V=aA Wt Q) (QM:0<V/\V<=1152921504606846976) (hWt:∀j,0<=Wt j/\Wt j<=1073741824) (hg:∀j,0<=g j/\g j<=1073741824):
 Cw 208 #[.slice (some (az lb lo)) n lc,.slice (some (az wb wo)) n wc,.slice (some (az ob oo)) nq oc,Iq L,Iq V] w fun e w'=>e=Rw (.tuple #[])/\
  ∃(S:List Nat) (m:Nat),S.Perm Q/\S.Pairwise (fun i k=>L*Wt k %V<L*Wt i %V\/(L*Wt i %V=L*Wt k %V/\i<k))/\(m:Int)=L-aA (fun j=>L*Wt j/V) S/\
   cG w' lb lo n (fun j=>if j∈S then g j+L*Wt j/V+(if j∈S.take m then 1 else 0)else g j)/\Below B w w':=by
 have CS:=qH<|
  sV (dp Q) ob oo oc nq w ho (by grind[eO]) (by omega);have HL:=qH<|hl;have HW:=qH<|hw;have __:=qH<|hQn;have HQ:Hid Q.Nodup:=hQ;have HV:=qH<|hV;have HWT:=qH<|hWt;have HG:=qH<|hg;have RU:=qH<|hnq;have oD:=hL.1;have W8:=hL.2;have hV2:=QM.1;have UP:=QM.2;have OZ:=hl.1;have hzw:=hw.1;have Re:=ho.1;have gR:=run_make_row' (P:=prog) 98 3 (Iq 0) 8 underlying98 gI rfl .i64 .i64 n (by omega) (by omega);clear hl hw ho hQn hQ hV hWt hg hnq hL QM;go_enter func208,ntmps208;go_wp2_with fail;refine CS.mono ?_;rintro e w1 ⟨rfl,hr1,wN⟩;obtain⟨A,hA,hAp,hAs⟩:=As HQ;rw[hA]at hr1;have fZ:=wN.size;have HR1:=qH<|hr1;have Nj:=qH<|HL.grown wN h1;have IM:=qH<|HW.grown wN h3;have HB1:=qH<|(ag B w).grown wN Cm (fun q hq=>by grind);have HAp:=qH<|hAp;have YE:=qH<|hAs;go_wp2;obtain⟨fb,oS⟩:=aj w1.heap.size;rw[oS];have D0:Hid (Nb w ((w1.alloc (.cells (madeCells #[Iq 0] n) 3)).alloc (.cells #[Sq fb n n] 98)) n lb lo wb wo ob oo B fb Mn Mx Wt g A L V 0):=by
  have b1:Bt w1 ((w1.alloc (.cells (madeCells #[Iq 0] n) 3)).alloc (.cells #[Sq fb n n] 98)):=((ag _ w1).alloc (ai _) _).alloc (by simp) _;refine⟨(Nj.below b1).congr fun j _=>by simp,?_,HR1.below b1,IM.below b1,?_,by simp;omega,HB1.trans (b1.mono (by omega))⟩
  ·refine⟨by simp;omega,fun j hj=>⟨?_,?_⟩⟩;·rw[World.cell?_alloc_past _ _ _ (by simp;omega),World.cell?_alloc_at _ _ _ _ oS.symm];simp[madeCells,hj,vI]
   ·rw[World.frozen?_alloc_past _ _ _ (by simp;omega),World.frozen?_alloc_at _ _ _ _ oS.symm]
  ·rw[World.cell?_alloc_at _ _ _ _ (by simp;omega)];rfl
 have hlb:lb<fb:=by omega
 have hwb:wb<fb:=by omega
 have xP:ob<fb:=by omega
 have RE:=qH<|HAp.length_eq.trans RU;have DY:Hid A.Nodup:=HAp.nodup_iff.2 HQ;have HVA:=qH<|HV.trans (lJ HAp.symm);have hBf:B<=fb:=by omega
 go_loopw[10,25] (fun ms i wr=>∃(k:Nat) (mi:Int),ms=Iq mi/\i=Iq k/\k<=nq/\0<=mi/\mi<=L/\Hid (mi=L-aA (fun j=>L*Wt j/V) (A.take k))/\Hid (Nb w wr n lb lo wb wo ob oo B fb Mn Mx Wt g A L V k)) (fun _ i _=>nq-(intOf i).toNat);case atStart=>exact⟨0,L,rfl,rfl,bc _,by omega,by omega,by simp[Hid,aA],D0⟩
 case round=>
  obtain⟨k,mi,rfl,rfl,hk,kI,hm2,HM,HD⟩:=hrel;by_cases hlt:k<nq
  ·have aK:(k:Int)<(nq:Int):=by omega
   have hd:=HD.out;have Cv:k<A.length:=by rw[RE.out];exact hlt
   obtain⟨i,hi⟩:=aj (A[k]?.getD 0);have iV:=__ i (HAp.mem_iff.1 (by rw[<-hi];exact qR Cv));obtain⟨x,hx⟩:=aj (Wt i);obtain⟨gi,xN⟩:=aj (g i);have tS:=HWT i;have lz:=HG i;rw[hx]at tS;rw[xN]at lz;have co:wr.cell? (az ob (oo+k))=some (Iq (i:Int)):=by rw[(hd.open_.2 k (by rw[eO];exact Cv)).1,re Cv,hi]
   have cw:wr.cell? (az wb (wo+i*3+2))=some (Iq x):=by rw[(hd.want.2 i iV).2.2,hx]
   have oX:i∉A.take k:=by rw[<-hi];exact fL DY Cv
   have Sh:wr.cell? (az lb (lo+i))=some (Iq gi):=by rw[(hd.len.2 i iV).1];dsimp only;rw[if_neg oX,xN]
   have fl1:=(hd.len.2 i iV).2;have cf1:wr.cell? (az fb i)=some (Iq 0):=by have:=(hd.frac.2 i iV).1;dsimp only at this;rw[if_neg oX,bC]at this;exact this
   have ff1:wr.frozen? (az fb i)=false:=by have:=(hd.frac.2 i iV).2;rw[bC]at this;exact this
   have cb:=hd.box;have fT:=hd.size;obtain⟨p,hp⟩:=aj (L*x);have EE:0<=p:=by rw[<-hp];exact gQ oD tS.1
   have Gx:p<=1152921504606846976:=by rw[<-hp];exact g_ (lm W8 tS.2 tS.1 (by omega)) (by decide)
   have qG:=tS.1;have m6:=tS.2;have wN:=lz.1;have lN:=lz.2;obtain⟨q,hq⟩:=aj (p/V);obtain⟨r,hr⟩:=aj (p %V);have Ti:0<=q:=by rw[<-hq];exact Bh EE (by omega)
   have tR:q<=p:=by rw[<-hq];exact Int.ediv_le_self _ EE
   have zh:0<=r:=by rw[<-hr];exact Bg _ (by omega)
   have hr1:r<V:=by rw[<-hr];exact Ff _ hV2
   have htd:p.tdiv V=q:=by rw[vy EE,hq]
   have htm:p.tmod V=r:=by rw[Ry EE,hr]
   have MI:Hid (Nb w ((wr.setCell (az lb (lo+i)) (Iq (gi+q))).setCell (az fb (0+i)) (Iq r)) n lb lo wb wo ob oo B fb Mn Mx Wt g A L V (k+1)):=by have:=HD.next DY Cv i hi iV h1 h2 hlb xP hwb jo hBf;rw[xN,hx,hp,hq,hr]at this;exact this
   have HMx:Hid (mi-q=L-aA (fun j=>L*Wt j/V) (A.take (k+1))):=by show _=_;rw[eU A k Cv,dj,hi];have:=HM.out;rw[hx,hp,hq];omega
   have hmq:0<=mi-q:=by rw[HMx.out];have t1:=Ht (f:=fun j=>L*Wt j/V) (A:=A) (fun j _=>Bh (gQ oD (HWT j).1) (by omega)) (k+1);have t2:=(jS (L:=L) HVA hV2).1;omega
   have w1:IntKind.i64.wrap (gi+q)=gi+q:=IntWalk.i64_in _ ⟨by omega,by omega⟩;have w2:IntKind.i64.wrap q=q:=IntWalk.i64_in _ ⟨by omega,by omega⟩;have w3:IntKind.i64.wrap r=r:=IntWalk.i64_in _ ⟨by omega,by omega⟩;have w4:IntKind.i64.wrap p=p:=IntWalk.i64_in _ ⟨by omega,by omega⟩;have ziM:V≠0:=by omega
   clear hd tS lz oX hx xN hi HM HD;go_wp2_with fail;go_big_region;go_wp2_with fail;go_big_region;go_wp2;go_roundw;case rel=>refine⟨k+1,mi-q,rfl,by go_num,by omega,by omega,by omega,HMx,?_⟩;have:=MI.out;rw[bC]at this;exact this.below ⟨rfl,rfl,rfl,by simp,fun _ _=>rfl⟩ hBf
   case measure=>simp[intOf];omega
  ·have qC:¬(k:Int)<(nq:Int):=by omega
   obtain rfl:k=nq:=by omega
   have hd:=HD.out;have Q_:=gt (by rw[RE.out];omega);obtain⟨fr,MW⟩:∃fr:Nat->Int,(fun j=>if j∈A.take k then L*Wt j %V else 0)=fr:=⟨_,rfl⟩;obtain⟨hh,UY⟩:∃hh:Nat->Int,(fun j=>if j∈A.take k then g j+L*Wt j/V else g j)=hh:=⟨_,rfl⟩;have bH:=hd.len;have J7:=hd.frac;rw[UY]at bH;rw[MW]at J7;have hF:∀j,j<n->((List.range n).map fr)[j]?.getD 0=fr j:=fun j hj=>by simp[hj]
   have Zs:((List.range n).map fr).length=n:=by simp
   have hsA:=fun j hj=>__ j (HAp.mem_iff.1 hj);have HS:Hid (Cw 229 #[.slice (some (az ob oo)) k oc,.func (.func 232) #[] #[Pq (fb+1)]] wr fun e w'=>e=Rw (.tuple #[])/\Sorted wr w' ob oo (ul (fun x=>((List.range n).map fr)[x.toNat]?.getD 0)) [] (dp A) []):=by
    refine k_ 232 #[Pq (fb+1)] (enters_of func232 (by kernel_rfl) rfl) (fun i k=>jw (((List.range n).map fr)[k.toNat]?.getD 0) (((List.range n).map fr)[i.toNat]?.getD 0)) (dp A) (ul (fun x=>((List.range n).map fr)[x.toNat]?.getD 0)) (K8 _ _) wr ob oo oc ?_ (dp A) wr k (dA _ _) hd.open_ (fun x hx=>hx) (zP YE) (by rw[eO];exact RE) (by omega);refine FU _ (fb+1) fb 0 n ob wr (by rw[Zs];exact hd.box) (fun j hj=>?_) _ ?_ (by omega) (by omega) (by omega);·rw[Zs]at hj;rw[hF j hj];exact(J7.2 j hj).1
    ·intro x hx;obtain⟨j,rfl,hj⟩:=nQ hx;exact⟨j,rfl,by rw[Zs];exact hsA j hj⟩
   have VF:Hid (∀w2,Sorted wr w2 ob oo (ul (fun x=>((List.range n).map fr)[x.toNat]?.getD 0)) [] (dp A) []->∃S:List Nat,S.Perm A/\S.Pairwise (fun i k=>L*Wt k %V<L*Wt i %V\/(L*Wt i %V=L*Wt k %V/\i<k))/\Uc w w2 n lb lo ob oo B hh S 0/\wr.heap.size<=w2.heap.size):=by
    rintro w2 ⟨⟨M,hp,zg,hr2⟩,fQ⟩;obtain⟨S,rfl,hs⟩:=pi hp;refine⟨S,hs,?_,⟨?_,by simpa using hr2,?_⟩,fQ.size⟩
    ·unfold dp at zg;rw[Mr]at zg;refine List.Pairwise.imp_of_mem ?_ zg;intro i j hi hj h;have hiA:=hs.mem_iff.1 hi;have hjA:=hs.mem_iff.1 hj;simp only[ul,oy,hF i (hsA i hiA),hF j (hsA j hjA)]at h;rw[<-MW]at h;dsimp only at h;rw[Q_,if_pos hiA,if_pos hjA]at h;rcases h with h|⟨h,h'⟩;·exact .inl h
     ·exact .inr ⟨h,by omega⟩
    ·exact(bH.grown fQ h1).congr fun j _=>by simp
    ·exact hd.bel.grown fQ (by have:=hd.size;omega) (fun q hq=>by injection hq with hq;omega)
   obtain⟨m,hm⟩:∃m:Nat,mi=(m:Int):=⟨mi.toNat,by omega⟩;subst hm;have hmq:(m:Int)<(k:Int):=by have:=(jS (L:=L) HVA hV2).2;have e:=HM.out;rw[Q_]at e;rw[<-e,RE.out]at this;omega
   have HMA:Hid ((m:Int)=L-aA (fun j=>L*Wt j/V) A):=by have:=HM.out;rw[Q_]at this;exact this
   have HHH:Hid (∀j,hh j=if j∈A then g j+L*Wt j/V else g j):=fun j=>by rw[<-UY];dsimp only;rw[Q_]
   have Xu:Hid (∀j,0<=hh j/\hh j<=2305843009213693952):=fun j=>by rw[HHH j];have a1:=HG j;have a2:=HWT j;have a3:=gQ oD a2.1;have a4:L*Wt j<=1152921504606846976:=g_ (lm W8 a2.2 a2.1 (by omega)) (by decide);have a5:0<=L*Wt j/V:=Bh a3 (by omega);have a6:L*Wt j/V<=L*Wt j:=Int.ediv_le_self _ a3;split<;>omega
   have fT:=hd.size;have hmc:(m:Int)<=(oc:Int):=by omega
   clear hd bH J7 UY MW Q_ hF Zs HM HD;go_wp2_with fail;refine HS.mono ?_;rintro e w2 ⟨rfl,hS⟩;obtain⟨S,hS1,hS2,hS3,hS4⟩:=VF w2 hS;have Uw:=qH<|hS1;have HSs:=qH<|hS2;have HE:=qH<|hS3;clear hS hS1 hS2 hS3 VF HS;go_wp2;go_loopw[64] (fun i wr=>∃c:Nat,i=Iq c/\c<=m/\Hid (Uc w wr n lb lo ob oo B hh S c)) (fun i _=>m-(intOf i).toNat);case atStart=>exact⟨0,rfl,bc _,HE⟩
   case round=>
    obtain⟨c,rfl,hc,VE⟩:=hrel;have QL:=Uw.length_eq.trans RE;by_cases hlt:c<m
    ·have aK:(c:Int)<(m:Int):=by omega
     have hd:=VE.out;have Xk:c<S.length:=by omega
     obtain⟨i,hi⟩:=aj (S[c]?.getD 0);have iV:i<n:=by have:=qR Xk;rw[hi]at this;exact __ i (HAp.mem_iff.1 (Uw.mem_iff.1 this))
     have Xy:(i:Int)<(n:Int):=by omega
     have hSn:=Uw.nodup_iff.2 DY;have co:wr.cell? (az ob (oo+c))=some (Iq (i:Int)):=by rw[(hd.open_.2 c (by rw[eO];exact Xk)).1,re Xk,hi]
     obtain⟨y,hy⟩:=aj (hh i);have Z8:=Xu i;rw[hy]at Z8;have Z6:=Z8.1;have Z7:=Z8.2;have oX:i∉S.take c:=by rw[<-hi];exact fL hSn Xk
     have Sh:wr.cell? (az lb (lo+i))=some (Iq y):=by rw[(hd.len.2 i iV).1];dsimp only;rw[if_neg oX,hy]
     have fl1:=(hd.len.2 i iV).2;have MI:Hid (Uc w (wr.setCell (az lb (lo+i)) (Iq (y+1))) n lb lo ob oo B hh S (c+1)):=by have:=hd.next hSn Xk i hi iV h1 jo;rw[hy]at this;exact this
     clear hd Z8 oX hi hy hSn QL VE;go_wp2;go_roundw;case rel=>exact⟨c+1,by go_num,by omega,MI⟩
     case measure=>simp[intOf];omega
    ·have qC:¬(c:Int)<(m:Int):=by omega
     obtain rfl:c=m:=by omega
     have HZ:Hid (∃(S:List Nat) (m:Nat),S.Perm Q/\S.Pairwise (fun i k=>L*Wt k %V<L*Wt i %V\/(L*Wt i %V=L*Wt k %V/\i<k))/\(m:Int)=L-aA (fun j=>L*Wt j/V) S/\
      cG wr lb lo n (fun j=>if j∈S then g j+L*Wt j/V+(if j∈S.take m then 1 else 0)else g j)/\Below B w wr):=by
      refine⟨S,c,Uw.trans HAp,HSs,HMA.trans (by rw[lJ Uw.out]),VE.len.congr fun j hj=>?_,VE.bel⟩;have UW:=HHH j;have hmem:j∈S↔j∈A:=Uw.mem_iff;by_cases e:j∈S;·rw[if_pos (hmem.1 e)]at UW;rw[if_pos e,UW];split<;>omega
      ·rw[if_neg (fun h=>e (hmem.2 h))]at UW;rw[if_neg e,if_neg (fun h=>e (qk h)),UW]
     clear QL VE;go_wp2;go_end0;obtain⟨S',m',z1,z2,z3,z4,z5⟩:=HZ.out;exact⟨rfl,S',z1,z2,m',z3,z4,z5⟩
structure NI(w wr:World)(n lb lo wb wo g B:Nat)(Mn Mx Wt:Nat->Int)(Q:List Nat)(c:Nat):Prop where
 len:cG wr lb lo n (fun j=>if j∈Q.take c then Mx j else Mn j)
 want:eD wr wb wo n Mn Mx Wt
 open_:a_ wr g 0 (dp Q)
 bel:Below B w wr
theorem NI.below{w W W'}{n lb lo wb wo g B}{Mn Mx Wt}{Q}{c}(h:NI w W n lb lo wb wo g B Mn Mx Wt Q c)(hb:Bt W W')(hB:B<=w.heap.size):NI w W' n lb lo wb wo g B Mn Mx Wt Q c:=
 ⟨h.len.below hb,h.want.below hb,h.open_.below hb,h.bel.trans (hb.mono (aT hB h.bel.size))⟩
theorem NI.next{w wr}{n lb lo wb wo g B}{Mn Mx Wt}{Q}{c}(H:NI w wr n lb lo wb wo g B Mn Mx Wt Q c)(hQ:Q.Nodup)(hk:c<Q.length)  i  (hi:Q[c]?.getD 0=i) (iV:i<n) (h1:lb≠g) (h2:lb≠wb) (jo:B<=lb):
 NI w (wr.setCell (az lb (lo+i)) (Iq (Mx i))) n lb lo wb wo g B Mn Mx Wt Q (c+1):=by
 have ht:=eU Q c hk;have QX:=fL hQ hk;rw[hi]at ht QX;have hm:∀j,j∈Q.take (c+1)↔j∈Q.take c\/j=i:=fun j=>by rw[ht];simp
 refine⟨?_,H.want.other _ _ _ h2,H.open_.other _ _ _ h1,H.bel.setCell jo _⟩;refine(H.len.set i (Mx i) iV).congr fun j hj=>?_;grind[oH]
structure qt(Mn Mx Wt:Nat->Int)(Q:List Nat)(L0:Int)(c:Nat)(L V:Int):Prop where
 left:L=L0-aA (fun j=>Mx j-Mn j) (Q.take c)
 pos:0<=L
 weight:V=aA Wt (Q.drop c)
 full:∀j∈Q.take c,(Mx j-Mn j)*V<=L*Wt j
theorem mj(A:List Nat)  k  (hk:k<A.length):A.drop k=(A[k]?.getD 0)::A.drop (k+1):=by simp_all
theorem Au{R}{Q:List Nat}(h:Q.Pairwise R){c}(hc:c<Q.length):(∀j∈Q.take c,R j (Q[c]?.getD 0))/\(∀k∈Q.drop (c+1),R (Q[c]?.getD 0) k):=by
 have e:Q=Q.take c++((Q[c]?.getD 0)::Q.drop (c+1)):=by rw[<-mj Q c hc,gO]
 have h':(Q.take c++((Q[c]?.getD 0)::Q.drop (c+1))).Pairwise R:=by rw[<-e];exact h
 rw[jM]at h';refine⟨fun j hj=>h'.2.2 j hj _ (by simp),?_⟩;exact(MB.1 h'.2.1).1
theorem qt.next{Mn Mx Wt}{Q}{L0}{c}{L V}(h:qt Mn Mx Wt Q L0 c L V)(hm:∀j,0<=Mx j-Mn j)(hs:Q.Pairwise (Wg Mn Mx Wt))(hw:∀j∈Q,0<Wt j)(hc:c<Q.length)  i  (hi:Q[c]?.getD 0=i) (hle:(Mx i-Mn i)*V<=L*Wt i):qt Mn Mx Wt Q L0 (c+1) (L-(Mx i-Mn i)) (V-Wt i):=by
 have h1:=Au hs hc;rw[hi]at h1;have hd:=mj Q c hc;rw[hi]at hd;have ht:=eU Q c hc;rw[hi]at ht;have GB:=hw i (by grind);have hV:V=aA Wt (i::Q.drop (c+1)):=by rw[<-hd];exact h.weight
 have:=F' (A:=Q.take c) (B:=Q.drop (c+1)) (i:=i) (L:=L) (W:=V) hm (fun j hj=>⟨hw j (qk hj),h1.1 j hj⟩) GB (fun j hj=>hw j (ke hj)) hV hle;refine⟨?_,this.1,?_,?_⟩;·have e:=h.left;grind[dj]
 all_goals grind[bN]
theorem qt.stop{Mn Mx Wt}{Q}{L0}{c}{L V}(h:qt Mn Mx Wt Q L0 c L V)(hs:Q.Pairwise (Wg Mn Mx Wt))(hw:∀j∈Q,0<Wt j)(hc:c<Q.length)  i  (hi:Q[c]?.getD 0=i) (yU:L*Wt i<(Mx i-Mn i)*V):0<V/\∀k∈Q.drop c,L*Wt k<(Mx k-Mn k)*V:=by
 have h1:=Au hs hc;rw[hi]at h1;have hd:=mj Q c hc;rw[hi]at hd;have GB:=hw i (by grind);have hV:V=Wt i+aA Wt (Q.drop (c+1)):=by rw[<-bN,<-hd];exact h.weight
 have h0:0<=aA Wt (Q.drop (c+1)):=cy fun j hj=>Fc (hw j (ke hj));refine⟨by omega,?_⟩;rw[hd];exact GZ GB (by omega) (fun k hk=>⟨hw k (ke hk),h1.2 k hk⟩) yU
theorem qt.poured_all{Mn Mx Wt}{Q}{n}{r L V}(h:qt Mn Mx Wt Q (r-aA Mn (List.range n)) Q.length L V)(hp:Q.Perm (dd Wt n)):bV n Mn Mx Wt r (fun j=>if j∈Q then Mx j else Mn j) Q [] L V 0:=by
 have e:Q.take Q.length=Q:=qj;refine⟨by rw[j_];exact hp,?_,h.pos,by have:=h.weight;grind,by have:=h.full;rwa[e]at this,by simp,fun h=>(h rfl).elim,fun _=>rfl,List.Pairwise.nil,fun j hj=>?_⟩;·have:=h.left;grind
 grind
theorem qt.poured_some{Mn Mx Wt}{Q}{n c}{r L V}(h:qt Mn Mx Wt Q (r-aA Mn (List.range n)) c L V)(hp:Q.Perm (dd Wt n))  S  (m:Nat) (hS:S.Perm (Q.drop c)) (ho:∀k∈Q.drop c,L*Wt k<(Mx k-Mn k)*V) (bG:Q.drop c≠[]) (hm:(m:Int)=L-aA (fun j=>L*Wt j/V) S)
 (hs:S.Pairwise (fun i k=>L*Wt k %V<L*Wt i %V\/(L*Wt i %V=L*Wt k %V/\i<k))):
 bV n Mn Mx Wt r (fun j=>if j∈S then(if j∈Q.take c then Mx j else Mn j)+L*Wt j/V+(if j∈S.take m then 1 else 0)else(if j∈Q.take c then Mx j else Mn j)) (Q.take c) S L V m:=by
 have hpp:(Q.take c++S).Perm Q:=by
  conv=>rhs;rw[<-List.take_append_drop c Q]
  exact List.Perm.append_left _ hS
 have gS:=hp.nodup_iff.2 (vw.filter _);have zjb:∀j∈Q.take c,j∉S:=fun j h1 h2=>by grind
 refine⟨hpp.trans hp,h.left,h.pos,h.weight.trans (lJ hS.symm),h.full,fun j hj=>ho j (hS.mem_iff.1 hj),fun _=>hm,fun e=>(bG (by simp_all)).elim,hs,fun j hj=>?_⟩;grind
def m_(w w':World)(n lb lo B:Nat)(Mn Mx Wt:Nat->Int)(r:Int):Prop:=
 ∃(a:Nat->Int) (A S:List Nat) (L V:Int) (m:Nat),bV n Mn Mx Wt r a A S L V m/\cG w' lb lo n a/\Below B w w'
def PF:Value->Nat
 |.slice _ n _=>n
 |_=>0
theorem Lj(n lb lo lc wb wo wc B:Nat)(Mn Mx Wt:Nat->Int)(r L0:Int)(w:World)(hl:cG w lb lo n Mn)(hw:eD w wb wo n Mn Mx Wt)(h2:lb≠wb)(jo:B<=lb)(Cm:B<=w.heap.size)(hn:n<=1048576)
    (hM:∀j,0<=Mn j/\Mn j<=Mx j/\Mx j<=1048576/\0<=Wt j/\Wt j<=1048576) (hL:L0=r-aA Mn (List.range n)) (hL0:0<=L0/\L0<=1073741824):
    Cw 178 #[.slice (some (az lb lo)) n lc,.slice (some (az wb wo)) n wc,Iq L0] w fun e w'=>e=Rw (.tuple #[])/\m_ w w' n lb lo B Mn Mx Wt r:=by
  have CO:=qH<|
    G6 n wb wo wc Mn Mx Wt w hw (fun j=>by grind) (by omega);have HL:=qH<|hl;have HW:=qH<|hw;have HM:=qH<|hM;have VJ:=qH<|hL;have OZ:=hl.1;have hzw:=hw.1;have oD:=hL0.1;have W8:=hL0.2;clear hl hw hM hL hL0;go_enter func178,ntmps178;go_wp2_with fail;refine CO.mono ?_;rintro e w1 ⟨v,Q,rfl,hO,hp,hs,hb⟩;have HP:=qH<|hp;have HS:=qH<|hs;have Nj:=qH<|HL.below hb;have IM:=qH<|HW.below hb;have HB1:=qH<|hb.mono Cm;have VT:Hid (∀j∈Q,j<n/\0<Wt j):=fun j hj=>oR (hp.mem_iff.1 hj);have HQd:Hid Q.Nodup:=hp.nodup_iff.2 (vw.filter _);rcases hO with⟨hq,rfl⟩|⟨bG,g,cp,rfl,hgB,hqc,ZE,hro⟩
  · have HZ:Hid (m_ w w1 n lb lo B Mn Mx Wt r):=by
      refine⟨_,Q,[],L0,0,0,qt.poured_all ⟨?_,oD,?_,?_⟩ HP,Nj.congr fun j _=>by simp[hq],HB1⟩;·rw[hq];simp[aA];exact VJ
      ·rw[hq];rfl
      ·rw[hq];simp
    go_wp2;go_loop[7,16] (fun t i=>t=Iq 0/\i=Iq 0) (fun _ _=>0);case atStart=>grind
    case round=>
      obtain⟨rfl,rfl⟩:=hrel;go_wp2;go_loop[2,6,7] (fun t o v=>t=Iq L0/\o=.slice none 0 0/\v=Iq 0) (fun _ _ _=>0);case atStart=>grind
      case round=>obtain⟨rfl,rfl,rfl⟩:=hrel;go_wp2;go_end0;exact⟨rfl,HZ⟩
  · obtain⟨nq,hnq⟩:=aj Q.length;have RU:=qH<|hnq;have HRo:=qH<|hro;have XU:nq<=n:=by have:=HP.length_eq;have:=oQ Wt n;omega
    rw[hnq]at hqc⊢;have hlg:lb≠g:=by omega
    have hwg:wb≠g:=by omega
    have Oh:B<=g:=by omega
    go_wp2;go_loop[7,16] (fun t i=>∃(k:Nat) (s:Int),t=Iq s/\i=Iq k/\k<=nq/\0<=s/\s<=(k:Int)*1048576/\Hid (s=aA Wt (Q.take k))) (fun _ i=>nq-(intOf i).toNat);case atStart=>exact⟨0,0,rfl,rfl,bc _,by omega,by omega,by simp[Hid,aA]⟩
    case round=>
      obtain⟨k,s,rfl,rfl,hk,Gy,hs1,Qo⟩:=hrel;by_cases hlt:k<nq
      · have aK:(k:Int)<(nq:Int):=by omega
        have hkQ:k<Q.length:=by rw[RU.out];exact hlt
        obtain⟨i,hi⟩:=aj (Q[k]?.getD 0);have iV:=(VT i (by grind)).1;obtain⟨x,hx⟩:=aj (Wt i);have tS:=HM i;rw[hx]at tS;have qG:=tS.2.2.2.1;have m6:=tS.2.2.2.2;have co:w1.cell? (az g k)=some (Iq (i:Int)):=by have:=(HRo.2 k (by grind[eO])).1;rw[re hkQ,hi,bC]at this;exact this
        have cw:w1.cell? (az wb (wo+i*3+2))=some (Iq x):=by rw[(IM.2 i iV).2.2,hx]
        have HSx:Hid (s+x=aA Wt (Q.take (k+1))):=by show _=_;rw[eU Q k hkQ,dj,hi,hx,Qo.out]
        have Gl:((k+1:Nat):Int)*1048576=(k:Int)*1048576+1048576:=by omega
        clear tS hi hx Qo;go_wp2;go_round;case rel=>exact⟨k+1,s+x,rfl,by go_num,by omega,by omega,by omega,HSx⟩
        grind[intOf]
      · have qC:¬(k:Int)<(nq:Int):=by omega
        obtain rfl:nq=k:=by omega
        have N0:Hid (qt Mn Mx Wt Q (r-aA Mn (List.range n)) 0 L0 s):=by refine⟨by simp[aA];exact VJ,oD,?_,by simp⟩;rw[Qo.out,gt (by omega),Mc]
        have P0:Hid (NI w w1 n lb lo wb wo g B Mn Mx Wt Q 0):=⟨Nj.congr fun j _=>by simp,IM,HRo,HB1⟩;clear Qo Nj IM HRo HB1;go_wp2;have zfw:(nq:Int)*1048576<=1099511627776:=by omega
        go_loopw[2,6,7] (fun l o v wr=>∃(c:Nat) (L V:Int) (p:Option Addr) (d e:Nat),l=Iq L/\o=.slice p d e/\v=Iq V/\c+d=nq/\c+e=cp/\0<=L/\L<=L0/\0<=V/\V<=1099511627776/\Hid (0<d->p=some (az g c))/\Hid (qt Mn Mx Wt Q (r-aA Mn (List.range n)) c L V)/\Hid (NI w wr n lb lo wb wo g B Mn Mx Wt Q c)) (fun _ o _ _=>PF o);case atStart=>grind
        case round=>
          obtain⟨c,L,V,p,d,e,rfl,rfl,rfl,QO,Gc,hL3,hL4,UP,hV4,HPp,HN,Uq⟩:=hrel;by_cases hd:0<d
          · have hd':(0:Int)<(d:Int):=by omega
            obtain rfl:=HPp hd;have CQ:=Uq.out;have SU:c<Q.length:=by rw[RU.out];omega
            obtain⟨i,hi⟩:=aj (Q[c]?.getD 0);have hiQ:i∈Q:=by rw[<-hi];exact qR SU
            have iV:=(VT i hiQ).1;have Xy:(i:Int)<(n:Int):=by omega
            obtain⟨x,hx⟩:=aj (Wt i);obtain⟨mn,yZ⟩:=aj (Mn i);obtain⟨mx,mY⟩:=aj (Mx i);have tS:=HM i;rw[hx,yZ,mY]at tS;obtain⟨hb1,hb2,uG,Ih,qY⟩:=tS;have co:wr.cell? (az g c)=some (Iq (i:Int)):=by have:=(CQ.open_.2 c (by rw[eO];exact SU)).1;rw[re SU,hi,bC]at this;exact this
            have cw0:wr.cell? (az wb (wo+i*3))=some (Iq mn):=by rw[(CQ.want.2 i iV).1,yZ]
            have cw1:wr.cell? (az wb (wo+i*3+1))=some (Iq mx):=by rw[(CQ.want.2 i iV).2.1,mY]
            have cw2:wr.cell? (az wb (wo+i*3+2))=some (Iq x):=by rw[(CQ.want.2 i iV).2.2,hx]
            have oX:i∉Q.take c:=by rw[<-hi];exact fL HQd SU
            have Sh:wr.cell? (az lb (lo+i))=some (Iq mn):=by rw[(CQ.len.2 i iV).1];dsimp only;rw[if_neg oX,yZ]
            have fl1:=(CQ.len.2 i iV).2;obtain⟨df,hdf⟩:=aj (mx-mn);have zbN:0<=df:=by omega
            have zbO:df<=1048576:=by omega
            obtain⟨pv,Vf⟩:=aj (df*V);have zj_:0<=pv:=by rw[<-Vf];exact gQ zbN UP
            have zj':pv<=1152921504606846976:=by rw[<-Vf];exact g_ (lm zbO hV4 UP (by omega)) (by decide)
            obtain⟨lx,ZN⟩:=aj (L*x);have zjH:0<=lx:=by rw[<-ZN];exact gQ hL3 Ih
            have zjI:lx<=1125899906842624:=by rw[<-ZN];exact g_ (lm (show L<=1073741824 by omega) qY Ih (by omega)) (by decide)
            have wdf:IntKind.i64.wrap df=df:=IntWalk.i64_in _ ⟨by omega,by omega⟩;by_cases yU:lx<pv
            · have hst:=HN.stop HS (fun j hj=>(VT j hj).2) SU i hi (by rw[hx,mY,yZ,hdf,Vf,ZN];exact yU);have Zv:=hst.1;have Sv:=CQ.below (W':=wr.drew) ⟨rfl,rfl,rfl,ai _,fun _ _=>rfl⟩ Cm;have SW:(Q.drop c).length=d:=by rw[cW,RU.out];omega
              have CD:Hid (Cw 208 #[.slice (some (az lb lo)) n lc,.slice (some (az wb wo)) n wc,.slice (some (az g c)) d e,Iq L,Iq V] wr.drew fun e w'=>e=Rw (.tuple #[])/\
                  ∃(S:List Nat) (m:Nat),S.Perm (Q.drop c)/\S.Pairwise (fun i k=>L*Wt k %V<L*Wt i %V\/(L*Wt i %V=L*Wt k %V/\i<k))/\(m:Int)=L-aA (fun j=>L*Wt j/V) S/\
                    cG w' lb lo n (fun j=>if j∈S then(if j∈Q.take c then Mx j else Mn j)+L*Wt j/V+(if j∈S.take m then 1 else 0)else(if j∈Q.take c then Mx j else Mn j))/\Below B wr.drew w'):=by
                refine yy n lb lo lc wb wo wc g c e B d Mn Mx Wt _ (Q.drop c) L V wr.drew Sv.len Sv.want ?_ hlg h2 hwg jo Oh (aT Cm Sv.bel.size) (HQd.sublist (List.drop_sublist _ _)) (fun j hj=>(VT j (ke hj)).1) (by intro h;rw[h]at SW;simp at SW;omega) SW (by omega) (by omega) (by omega) (by omega) ⟨hL3,by omega⟩ HN.weight ⟨Zv,by omega⟩ (fun j=>by have:=HM j;omega) (fun j=>by have:=HM j;split<;>omega);refine⟨Sv.open_.1,fun j hj=>?_⟩;rw[eO,SW]at hj;have h1:=Sv.open_.2 (c+j) (by rw[eO,RU.out];omega);rw[bC]at h1;refine⟨h1.1.trans ?_,h1.2⟩;have e1:dp (Q.drop c)=(dp Q).drop c:=by unfold dp;rw[List.map_drop]
                rw[e1,Bb]
              have HZ:Hid (∀w2,(∃(S:List Nat) (m:Nat),S.Perm (Q.drop c)/\S.Pairwise (fun i k=>L*Wt k %V<L*Wt i %V\/(L*Wt i %V=L*Wt k %V/\i<k))/\(m:Int)=L-aA (fun j=>L*Wt j/V) S/\
                    cG w2 lb lo n (fun j=>if j∈S then(if j∈Q.take c then Mx j else Mn j)+L*Wt j/V+(if j∈S.take m then 1 else 0)else(if j∈Q.take c then Mx j else Mn j))/\Below B wr.drew w2)->m_ w w2 n lb lo B Mn Mx Wt r):=by rintro w2 ⟨S,m,q1,q2,q3,q4,q5⟩;exact⟨_,Q.take c,S,L,V,m,HN.poured_some HP S m q1 hst.2 (by intro h;rw[h]at SW;simp at SW;omega) q3 q2,q4,Sv.bel.trans q5⟩
              clear hst Sv SW CQ oX hi hx yZ mY HN Uq;go_wp2_with fail;go_big_region;go_wp2_with fail;refine CD.mono ?_;rintro e2 w2 ⟨rfl,hq⟩;have HF:=qH<|HZ w2 hq;clear hq HZ;go_wp2;go_end0;exact⟨rfl,HF⟩
            · have hNx:=HN.next (fun j=>by have:=HM j;omega) HS (fun j hj=>(VT j hj).2) SU i hi (by rw[hx,mY,yZ,hdf,Vf,ZN];omega);rw[hx,mY,yZ,hdf]at hNx;have MI:=qH<|hNx;have hLd:=hNx.pos;have hVx:0<=V-x:=by rw[hNx.weight];exact cy fun j _=>(HM j).2.2.2.1
              have HPx:Hid (NI w (wr.setCell (az lb (lo+i)) (Iq (mn+df))) n lb lo wb wo g B Mn Mx Wt Q (c+1)):=by
                have:=CQ.next HQd SU i hi iV hlg h2 jo;rw[mY]at this;have e:mn+df=mx:=by omega
                rw[e];exact this
              have zjk:¬pv>lx:=by omega
              have QP:(1:Int)<=(e:Int):=by omega
              have OD:(1:Int)<=(d:Int):=by omega
              clear hNx CQ oX hi hx yZ mY HN Uq;go_wp2_with fail;go_big_region;go_wp2_with fail;refine⟨⟨c+1,L-df,V-x,_,d-1,e-1,rfl,rfl,rfl,by omega,by omega,hLd,by omega,hVx,by omega,?_,MI,?_⟩,?_⟩;·intro h;rw[if_neg (by omega)]
              ·exact HPx.below ⟨rfl,rfl,rfl,ai _,fun _ _=>rfl⟩ Cm
              ·show d-1<d;omega
          · obtain rfl:d=0:=by omega
            have hcl:c=Q.length:=by rw[RU.out];omega
            have HF:Hid (m_ w wr n lb lo B Mn Mx Wt r):=by have h1:=HN.out;have h2:=Uq.len;rw[hcl]at h1 h2;exact⟨_,Q,[],L,V,0,h1.poured_all HP,h2.congr fun j _=>by rw[qj],Uq.bel⟩
            clear hcl HN Uq;go_wp2;go_end0;exact⟨rfl,HF⟩
def rm(aD bM:Int)(n:Nat):Int:=max 0 (cl aD-cl bM*((n:Int)-1))
theorem vd  aD bM   n  :0<=rm aD bM n:=by grind[rm]
theorem Lr  aD bM   n  (hn:0<n):rm aD bM n<=100000:=by have h1:=dm aD;have h2:0<=cl bM*((n:Int)-1):=gQ (dm bM).1 (by omega);grind[rm]
structure qn(n:Nat)(mn:Nat->Int)(r:Int)(g:Nat->Int):Prop where
 bd:∀j,j<n->0<=g j/\g j<=mn j
 sum:aA g (List.range n)=r
 behind:∀i k,i<k->k<n->g i<mn i->g k=0
def ci(n:Nat)(mn mx wt:Nat->Int)(r:Int)(g:Nat->Int):Prop:=
 (r<aA mn (List.range n)/\qn n mn r g)\/(aA mn (List.range n)<=r/\∃(A S:List Nat) (L V:Int) (m:Nat),bV n mn mx wt r g A S L V m)
theorem Lp  n  (f:Nat->Int)  j  (hj:j<n):((List.range n).map f)[j]?.getD 0=f j:=by simp[hj]
theorem mN  n  (f:Nat->Int):((List.range n).map f).length=n:=by simp
theorem cG.irow{W}{blk off n}{g}(h:cG W blk off n g):a_ W blk off ((List.range n).map g):=
 ⟨h.1,fun j hj=>by rw[mN]at hj;rw[Lp n g j hj];exact h.2 j hj⟩
theorem a_.frow{W}{blk off n}{d}(h:a_ W blk off d)(hn:d.length=n):cG W blk off n (fun j=>d[j]?.getD 0):=
 ⟨h.1,fun j hj=>h.2 j (by omega)⟩
theorem Hu(d:List Int):aA (fun j=>d[j]?.getD 0) (List.range d.length)=d.sum:=by unfold aA;congr 1;refine List.ext_getElem (by simp) fun j h1 h2=>?_;grind
theorem NV  n   mn  (hm:∀j,0<=mn j)  r nL  (hr:0<=r) (h:nL=aA mn (List.range n)-r) (h0:0<=nL):qn n mn r (fun j=>(gb ((List.range n).map mn) n nL [])[j]?.getD 0)/\(gb ((List.range n).map mn) n nL []).length=n:=by have hl:=mN n mn;have hs:((List.range n).map mn).sum=aA mn (List.range n):=rfl;have ht:((List.range n).map mn).take n=(List.range n).map mn:=gt (by omega);obtain⟨X,e,xl,xb,xs,xk,_⟩:=yI ((List.range n).map mn) (fun i hi=>by grind) n nL [] (by omega) h0 (by grind);rw[j_]at e;rw[e];refine⟨⟨fun j hj=>?_,?_,fun i k MY hk hlt=>?_⟩,xl⟩;all_goals grind[Lp,Hu]
def qQ(w w':World)(lb n:Nat)(mn mx wt:Nat->Int)(r:Int):Prop:=w.heap.size<=lb/\(∃g,cG w' lb 0 n g/\ci n mn mx wt r g)/\Bt w w'
theorem DO(p:Option Addr)(n al:Nat)(aD bM:Int)(w:World)(hn:n=0\/200<n)(QW:n<=5864062014805):
 Cw 137 #[Iq aD,Iq bM,.slice p n al] w fun e w'=>e=Rw (.slice none 0 0)/\w'=w:=by
 rcases hn with rfl|hn;·go_enter func137,ntmps137;go_wp2;go_ret;simp_all
 ·have h1:(200:Int)<(n:Int):=by omega
  have h2:(n:Int)≠0:=by omega
  go_enter func137,ntmps137;go_wp2;go_ret;simp_all
structure I6(w wr:World)(cw lb n k:Nat)(mn mx wt:Nat->Int):Prop where
 len:cG wr lb 0 n (fun j=>if j<k then mn j else 0)
 want:eD wr cw 0 n mn mx wt
 bel:Bt w wr
theorem I6.next{w wr}{cw lb n k}{mn mx wt}(h:I6 w wr cw lb n k mn mx wt)(hk:k<n)(bG:lb≠cw)(hB:w.heap.size<=lb)  o  :I6 w ((wr.setCell (az lb (0+k)) (Iq (mn k))).alloc o) cw lb n (k+1) mn mx wt:=by
 have hb:Below (wr.setCell (az lb (0+k)) (Iq (mn k))).heap.size (wr.setCell (az lb (0+k)) (Iq (mn k))) ((wr.setCell (az lb (0+k)) (Iq (mn k))).alloc o):=(ag _ _).alloc (ai _) _;refine⟨((h.len.set k (mn k) hk).below hb).congr fun j hj=>?_,(h.want.other _ _ _ bG).below hb,(h.bel.setCell hB _).trans (hb.mono ?_)⟩;·grind[oH]
 ·have:=h.bel.size;simp_all
theorem Hq(n blk off al:Nat)(a b c:Nat->Int)(aD bM:Int)(w:World)(h:eD w blk off n a b c)(y_:0<n)(hn:n<=200):
 Cw 137 #[Iq aD,Iq bM,.slice (some (az blk off)) n al] w fun e w'=>∃lb,e=Rw (Sq lb n n)/\qQ w w' lb n (fun j=>cl (a j)) (fun j=>dK (a j) (b j)) (fun j=>cl (c j)) (rm aD bM n):=by
 have CW:=qH<|clampedWants_any n blk off al a b c w h (by omega);have CC:=qH<|shClamped_any;obtain⟨mn,yZ⟩:∃f:Nat->Int,(fun j=>cl (a j))=f:=⟨_,rfl⟩;obtain⟨mx,mY⟩:∃f:Nat->Int,(fun j=>dK (a j) (b j))=f:=⟨_,rfl⟩;obtain⟨wt,Vi⟩:∃f:Nat->Int,(fun j=>cl (c j))=f:=⟨_,rfl⟩;have HM:Hid (∀j,0<=mn j/\mn j<=mx j/\mx j<=100000/\0<=wt j/\wt j<=100000):=fun j=>by rw[<-yZ,<-mY,<-Vi];simp_all[dm,gE]
 rw[yZ,mY,Vi]at CW⊢;obtain⟨r,hr⟩:=aj (rm aD bM n);have zh:=vd aD bM n;have hr1:=Lr aD bM n y_;rw[hr]at zh hr1⊢;unfold rm at hr;obtain⟨cr,tv⟩:=aj (cl aD);obtain⟨cg,uH⟩:=aj (cl bM);have OB:=dm aD;have Gd:=dm bM;have C1:=qH<|fun w=>by have:=CC aD w;rw[tv]at this;exact this
 have C2:=qH<|fun w=>by have:=CC bM w;rw[uH]at this;exact this
 rw[tv]at hr OB;rw[uH]at hr Gd;obtain⟨pr,Ij⟩:=aj (cg*((n:Int)-1));have zj8:0<=pr:=by rw[<-Ij];exact gQ Gd.1 (by omega)
 have zj9:pr<=20000000:=by rw[<-Ij];exact g_ (lm Gd.2 (show(n:Int)-1<=200 by omega) (by omega) (by omega)) (by decide)
 rw[Ij]at hr;have SS:=OB.1;have Oz:=OB.2;have hc3:=Gd.1;have ZD:=Gd.2;have gR:=run_make_row' (P:=prog) 98 3 (Iq 0) 8 underlying98 gI rfl .i64 .i64 n (by omega) (by omega);have ED:¬(n:Int)=0:=by omega
 have QW:¬(200:Int)<(n:Int):=by omega
 have hn3:((n:Int)==0)=false:=by simpa using ED
 clear h yZ mY Vi tv uH OB Gd CC;go_enter func137,ntmps137;go_wp2_with(first|(go_at_call 175;refine CW.mono ?_;rintro e w1 ⟨rfl,q1,q2⟩;fail)|(go_at_call 176;refine(C1 _).mono ?_;rintro e w5 ⟨rfl,rfl⟩)|(go_at_call 176;refine(C2 _).mono ?_;rintro e w5 ⟨rfl,rfl⟩));refine CW.mono ?_;rintro e w1 ⟨rfl,q1,q2⟩;have IM:=qH<|q1;have HB1:=qH<|q2;have fZ:=q1.1;clear q1 q2 CW;go_wp2_with(first|(go_at_call 176;refine(C1 _).mono ?_;rintro e w5 ⟨rfl,rfl⟩)|(go_at_call 176;refine(C2 _).mono ?_;rintro e w5 ⟨rfl,rfl⟩));obtain⟨lb,hlb⟩:=aj w1.heap.size;rw[hlb];have S0:Hid (I6 w (w1.alloc (.cells (madeCells #[Iq 0] n) 3)) w.heap.size lb n 0 mn mx wt):=by
  have b1:Bt w1 (w1.alloc (.cells (madeCells #[Iq 0] n) 3)):=(ag _ w1).alloc (ai _) _;refine⟨⟨by simp;omega,fun j hj=>⟨?_,?_⟩⟩,IM.below b1,HB1.trans (b1.mono (by omega))⟩;·rw[World.cell?_alloc_at _ _ _ _ hlb.symm];simp[madeCells,hj,vI]
  ·rw[World.frozen?_alloc_at _ _ _ _ hlb.symm]
 have hlw:w.heap.size<lb:=by omega
 have Qo:Hid (∀k,aA mn (List.range (k+1))=aA mn (List.range k)+mn k):=fun k=>by rw[ka,dj]
 have HSb:Hid (∀k,0<=aA mn (List.range k)/\aA mn (List.range k)<=(k:Int)*100000):=fun k=>by
  refine⟨cy fun j _=>(HM j).1,?_⟩;have:=eT (f:=mn) (l:=List.range k) (b:=100000) fun j _=>by have:=HM j;omega
  rw[Fg]at this;exact this
 clear IM HB1 hlb gR;go_loopw[8,36] (fun l i wr=>∃(k:Nat) (x:Int),l=Iq x/\i=Iq k/\k<=n/\-20000000<=x/\x<=r/\Hid (x=r-aA mn (List.range k))/\Hid (I6 w wr w.heap.size lb n k mn mx wt)) (fun _ i _=>n-(intOf i).toNat);case atStart=>exact⟨0,r,rfl,rfl,bc _,by omega,by omega,by simp[Hid,aA],S0⟩
 case round=>
  obtain⟨k,x,rfl,rfl,hk,xS,qG,HX,HS⟩:=hrel;by_cases hlt:k<n
  ·have aK:(k:Int)<(n:Int):=by omega
   have hs:=HS.out;have OT:=HSb (k+1);have Tk:=Qo k;have UQ:=hs.want.2 k hlt;rw[bC]at UQ;obtain⟨a1,ha1⟩:=aj (mn k);obtain⟨a2,ha2⟩:=aj (mx k);obtain⟨a3,ha3⟩:=aj (wt k);have gR:=HM k;rw[ha1]at Tk;rw[ha1,ha2]at gR;rw[ha1,ha2,ha3]at UQ;obtain⟨cw0,cw1,cw2⟩:=UQ;have hzc:=hs.want.1;have OZ:=hs.len.1;have Sh:wr.cell? (az lb k)=some (Iq 0):=by have:=(hs.len.2 k hlt).1;dsimp only at this;rw[if_neg (by omega),bC]at this;exact this
   have fl1:wr.frozen? (az lb k)=false:=by have:=(hs.len.2 k hlt).2;rw[bC]at this;exact this
   have tr:Hid (x-a1=r-aA mn (List.range (k+1))):=by show _=_;rw[Tk,HX.out];omega
   have m6:-20000000<=x-a1:=by rw[tr.out];have:=OT.2;omega
   have HN:=qH<|fun o=>by have:=hs.next hlt (by omega) (by omega) o;rw[ha1,bC]at this;exact this
   have kI:=gR.1;have hm2:=gR.2.1;have Gp:=gR.2.2.1;clear hs OT Tk ha1 ha2 ha3 gR HX HS;go_wp2;go_roundw;case rel=>exact⟨k+1,x-a1,rfl,by go_num,by omega,by omega,by omega,tr,HN _⟩
   grind[intOf]
  ·have qC:¬(k:Int)<(n:Int):=by omega
   obtain rfl:n=k:=by omega
   have hs:=HS.out;have uK:=hs.len.congr fun j hj=>by rw[if_pos hj]
   have OZ:=hs.len.1;have hbw:=hs.bel;have Vm:=hbw.size;by_cases jl:x<0
   ·have CG:Hid (Cw 177 #[Sq lb n n,Iq (-x)] wr fun e w'=>e=Rw (.tuple #[])/\a_ w' lb 0 (gb ((List.range n).map mn) n (-x) [])/\wr.grownBy w' (some lb)):=by refine wG ((List.range n).map mn) lb 0 n (-x) wr n uK.irow (mN n mn) (by omega) (fun y hy=>?_) ⟨by omega,by omega⟩;obtain⟨j,_,rfl⟩:=Bi.1 hy;have:=HM j;omega
    have HF:Hid (∀w2,a_ w2 lb 0 (gb ((List.range n).map mn) n (-x) [])->wr.grownBy w2 (some lb)->qQ w w2 lb n mn mx wt r):=by intro w2 hi hg;have QN:=NV n mn (fun j=>(HM j).1) r (-x) zh (by rw[HX.out];omega) (by omega);refine⟨by omega,⟨_,hi.frow QN.2,.inl ⟨?_,QN.1⟩⟩,hbw.grown hg Vm (fun q hq=>by grind)⟩;have:=HX.out;omega
    clear hs uK hbw HX HS;go_wp2_with fail;refine CG.mono ?_;rintro e w2 ⟨rfl,q1,q2⟩;have HZ:=qH<|HF w2 q1 q2;clear q1 q2;go_wp2;go_ret;exact⟨lb,rfl,HZ⟩
   ·have CP:=qH<|
     Lj n lb 0 n w.heap.size 0 n w.heap.size mn mx wt r x wr uK hs.want (by omega) (by omega) Vm (by omega) (fun j=>by have:=HM j;omega) HX ⟨by omega,by omega⟩;have HF:Hid (∀w2,m_ wr w2 n lb 0 w.heap.size mn mx wt r->qQ w w2 lb n mn mx wt r):=by rintro w2 ⟨g,A,S,L,V,m,p1,p2,p3⟩;refine⟨by omega,⟨g,p2,.inr ⟨?_,A,S,L,V,m,p1⟩⟩,hbw.trans p3⟩;have:=HX.out;omega
    clear hs uK hbw HX HS;go_wp2_with fail;refine CP.mono ?_;rintro e w2 ⟨rfl,q1⟩;have HZ:=qH<|HF w2 q1;clear q1;go_wp2;go_ret;exact⟨lb,rfl,HZ⟩
end
section
variable{Mn Mx Wt:Nat->Int}
def fk(mn mx wt p q:Int):Int:=if mx*q<mn*q+p*wt then mx*q else mn*q+p*wt
theorem ra  mn mx wt p q  :fk mn mx wt p q<=mx*q/\fk mn mx wt p q<=mn*q+p*wt:=by grind[fk]
def jJ(n:Nat)(Mn Mx Wt:Nat->Int)(p q:Int):Int:=aA (fun j=>fk (Mn j) (Mx j) (Wt j) p q) (List.range n)
theorem zB{mn mx wt p q L V}(hw:0<=wt)(hq:0<q)(hV:0<V)(h:p*V<=L*q):fk mn mx wt p q*V<=fk mn mx wt L V*q:=by
 have h1:=(ra mn mx wt p q).1;have h2:=(ra mn mx wt p q).2;have a1:fk mn mx wt p q*V<=mx*q*V:=jd h1 (by omega);have a2:fk mn mx wt p q*V<=(mn*q+p*wt)*V:=jd h2 (by omega);have a3:=jd h hw;have e1:mx*q*V=mx*V*q:=eY _ _ _;have e2:(mn*q+p*wt)*V=mn*V*q+p*V*wt:=by rw[Int.add_mul,eY mn,eY p]
 have e3:(mn*V+L*wt)*q=mn*V*q+L*q*wt:=by rw[Int.add_mul,eY L]
 grind[fk]
theorem jn{f g}{l}(h:∀j∈l,f j<=g j)(e:aA f l=aA g l):∀j∈l,f j=g j:=by
 induction l with
 |nil=>grind
 |cons a l ih=>have h1:=h a (by simp);have h2:aA f l<=aA g l:=jZ fun j hj=>h j (by simp[hj]);grind[bN]
theorem bV.levs{n}{r}{a}{A S}{L W}{m}(h:bV n Mn Mx Wt r a A S L W m)(hw:∀j,Mn j<=Mx j)(hp:∀j,0<=Wt j)(hW:0<=W):
 ∀j,j<n->fk (Mn j) (Mx j) (Wt j) L W=if j∈A then Mx j*W else if j∈S then Mn j*W+L*Wt j else Mn j*W:=by
 obtain⟨hA,hS,hd,fA,fS,eI⟩:=h.facts;intro j hj;unfold fk;by_cases h1:j∈A;·rw[if_pos h1];have:=h.full j h1;rw[Int.sub_mul]at this;omega
 ·rw[if_neg h1];by_cases h2:j∈S;·rw[if_pos h2];have:=h.open_ j h2;grind
  ·rw[if_neg h2];have h0:Wt j=0:=by
    have:=hp j;by_cases e:0<Wt j;·grind
    ·omega
   have hm:=jd (hw j) hW;grind
theorem ol{f}{n}{A}(hA:A.Nodup)(fA:∀j∈A,j<n):aA (fun j=>if j∈A then f j else 0) (List.range n)=aA f A:=by rw[lf (A:=A) vw hA (fun j hj=>by grind) (fun j _ hj=>if_neg hj)];grind[bo]
theorem bV.tots{n}{r}{a}{A S}{L W}{m}(h:bV n Mn Mx Wt r a A S L W m)(hw:∀j,Mn j<=Mx j)(hp:∀j,0<=Wt j)(hW:0<=W):jJ n Mn Mx Wt L W=r*W:=by
 obtain⟨hA,hS,hd,fA,fS,eI⟩:=h.facts;have hl:=h.levs hw hp hW;have e0:jJ n Mn Mx Wt L W=W*aA Mn (List.range n)+(W*aA (fun j=>Mx j-Mn j) A+L*aA Wt S):=by
  unfold jJ;rw[<-fy W,<-fy W,<-fy L,<-ol (f:=fun j=>W*(Mx j-Mn j)) hA (fun j hj=>(fA j hj).1),<-ol (f:=fun j=>L*Wt j) hS (fun j hj=>(fS j hj).1),<-fx,<-fx];refine bo fun j hj=>?_;rw[hl j (by grind)];by_cases h1:j∈A;·grind
  ·grind
 rw[e0,<-h.weight,h.left];grind
theorem bV.same{n}{r}{a}{A S}{L W}{m}(h:bV n Mn Mx Wt r a A S L W m)(hw:∀j,Mn j<=Mx j)(hp:∀j,0<=Wt j)(hW:0<W){p q}(hq:0<q)(ht:jJ n Mn Mx Wt p q=r*q):
 ∀j,j<n->fk (Mn j) (Mx j) (Wt j) p q*W=fk (Mn j) (Mx j) (Wt j) L W*q:=by
 have h2:=h.tots hw hp (by omega);have e1:aA (fun j=>fk (Mn j) (Mx j) (Wt j) p q*W) (List.range n)=r*q*W:=by rw[<-ht];unfold jJ;rw[je _ W,<-fy];exact bo fun j _=>je _ _
 have e2:aA (fun j=>fk (Mn j) (Mx j) (Wt j) L W*q) (List.range n)=r*W*q:=by rw[<-h2];unfold jJ;rw[je _ q,<-fy];exact bo fun j _=>je _ _
 have e3:r*q*W=r*W*q:=eY _ _ _;intro j hj;by_cases c:p*W<=L*q;·exact jn (fun j _=>zB (hp j) hq hW c) (by rw[e1,e2,e3]) j (by simpa using hj)
 ·exact(jn (fun j _=>zB (hp j) hW hq (by omega)) (by rw[e1,e2,e3]) j (by simpa using hj)).symm
theorem FX{a N q V:Int}(hq:0<q)(hV:0<V)(h:a*V=N*q):a/q=N/V/\a %q*V=N %V*q:=by
 refine⟨?_,?_⟩;·rw[<-Int.mul_ediv_mul_of_pos_left a q hV,h,je q V,Int.mul_ediv_mul_of_pos_left N V hq]
 ·rw[je (a %q) V,<-Int.mul_emod_mul_of_pos a q hV,je V a,h,je (N %V) q,<-Int.mul_emod_mul_of_pos N V hq,je V q,je q N]
def UK(Mn Mx Wt:Nat->Int)(A S:List Nat)(L W:Int)(j:Nat):Int:=if j∈A then Mx j else if j∈S then Mn j+L*Wt j/W else Mn j
def Oc(Wt:Nat->Int)(S:List Nat)(L W:Int)(j:Nat):Int:=if j∈S then L*Wt j %W else 0
theorem bV.parts{n}{r}{a}{A S}{L W}{m}(h:bV n Mn Mx Wt r a A S L W m)(hw:∀j,Mn j<=Mx j)(hp:∀j,0<=Wt j)(hW:0<W){p q}(hq:0<q)(ht:jJ n Mn Mx Wt p q=r*q):
 ∀j,j<n->fk (Mn j) (Mx j) (Wt j) p q/q=UK Mn Mx Wt A S L W j/\fk (Mn j) (Mx j) (Wt j) p q %q*W=Oc Wt S L W j*q:=by
 obtain⟨hA,hS,hd,fA,fS,eI⟩:=h.facts;intro j hj;have h1:=h.same hw hp hW hq ht j hj;have h2:=h.levs hw hp (by omega) j hj;have h3:=FX hq hW h1;rw[h3.1,h3.2,h2];unfold UK Oc;have dG:W≠0:=by omega
 by_cases c1:j∈A;·rw[if_pos c1,if_pos c1,if_neg (hd j c1)];exact⟨Fm _ dG,by simp_all⟩
 ·rw[if_neg c1,if_neg c1];by_cases c2:j∈S
  ·rw[if_pos c2,if_pos c2,if_pos c2];refine⟨?_,?_⟩;·rw[Int.add_comm,Int.add_mul_ediv_right _ _ dG,Int.add_comm]
   ·rw[Int.add_comm,Int.add_mul_emod_self_right]
  ·rw[if_neg c2,if_neg c2,if_neg c2];exact⟨Fm _ dG,by rw[Int.mul_emod_left]⟩
theorem bV.is_bse{n}{r}{a}{A S}{L W}{m}(h:bV n Mn Mx Wt r a A S L W m)  j  (hj:j<n):a j=UK Mn Mx Wt A S L W j+(if j∈S.take m then 1 else 0):=by obtain⟨hA,hS,hd,fA,fS,eI⟩:=h.facts;rw[h.is j hj];grind[UK]
theorem bV.left_m{n}{r}{a}{A S}{L W}{m}(h:bV n Mn Mx Wt r a A S L W m)(hp:∀j,0<=Wt j)(bG:S≠[]):m<=S.length/\r-aA (UK Mn Mx Wt A S L W) (List.range n)=m:=by
 obtain⟨hA,hS,hd,fA,fS,eI⟩:=h.facts;have dL:0<W:=by obtain⟨x,hx⟩:=vx S bG;rw[h.weight];exact oB (fS x hx).2 (iO (fun k _=>hp k) hx)
 have hb:=jS (L:=L) h.weight dL;rw[<-h.miss bG]at hb;have hm:m<=S.length:=by omega
 refine⟨hm,?_⟩;have e:=(h.sum hp).1 bG;rw[bo (fun j hj=>h.is_bse j (by grind)),fx]at e;have e2:aA (fun j=>if j∈S.take m then(1:Int)else 0) (List.range n)=m:=by rw[lf (A:=S) vw hS (fun j hj=>by grind) (fun j _ hj=>if_neg (fun e=>hj (qk e))),AN S hS m hm]
 omega
theorem bV.frac_pos{n}{r}{a}{A S}{L W}{m}(h:bV n Mn Mx Wt r a A S L W m)(hp:∀j,0<=Wt j)(hW:0<W)  t  (ht:t<m) (hm:m<=S.length):0<L*Wt (S[t]?.getD 0) %W:=by
 have bG:S≠[]:=by intro e;rw[e]at hm;simp at hm;omega
 have Km:t<S.length:=by omega
 obtain⟨i,hi⟩:=aj (S[t]?.getD 0);rw[hi];have qC:0<=L*Wt i %W:=Bg _ (by omega);by_cases hz:L*Wt i %W=0
 ·exfalso;have e:aA (fun j=>L*Wt j) S=W*aA (fun j=>L*Wt j/W) S+aA (fun j=>L*Wt j %W) S:=by rw[<-fy,<-fx];exact bo fun j _=>(Int.mul_ediv_add_emod _ _).symm
  rw[fy,<-h.weight]at e;have hmm:=h.miss bG;have oZ:S=S.take t++(i::S.drop (t+1)):=by rw[<-hi,dN Km];show S=S.take t++(S[t]::S.drop (t+1));rw[<-List.drop_eq_getElem_cons Km,gO]
  have zg:=h.sorted;rw[oZ,jM]at zg;have Cy:∀k∈S.drop (t+1),L*Wt k %W=0:=fun k hk=>by have:=(MB.1 zg.2.1).1 k hk;have h0:0<=L*Wt k %W:=Bg _ (by omega);omega
  have Kk:aA (fun j=>L*Wt j %W) S=aA (fun j=>L*Wt j %W) (S.take t):=by
   conv=>lhs;rw[oZ]
   rw[ld,bN,hz];have:aA (fun j=>L*Wt j %W) (S.drop (t+1))=0:=by
    rw[bo (g:=fun _=>0) Cy];have:∀l:List Nat,aA (fun _=>(0:Int)) l=0:=by
     intro l;induction l with
     |nil=>rfl
     |cons a l ih=>grind[bN]
    exact this _
   omega
  have hbd:aA (fun j=>L*Wt j %W) (S.take t)<=((S.take t).length:Int)*W:=eT fun j _=>Fc (Ff _ hW);have bH:(S.take t).length=t:=by rw[cX];omega
  rw[bH]at hbd;have e4:W*(m:Int)=aA (fun j=>L*Wt j %W) S:=by rw[hmm,Int.mul_sub,je W L];omega
  have h6:W*(t+1:Int)<=W*(m:Int):=Mm (by omega) (by omega);grind
 ·omega
def pu(mn mx wt p q:Int):Bool:=decide (0<wt/\mn*q+p*wt<mx*q)
def tD(n:Nat)(Mn Mx Wt:Nat->Int)(p q:Int):Int:=aA (fun j=>if pu (Mn j) (Mx j) (Wt j) p q then Wt j else 0) (List.range n)
def tC(n:Nat)(Mn Mx Wt:Nat->Int)(p q:Int):Int:=aA (fun j=>if pu (Mn j) (Mx j) (Wt j) p q then Mn j else if 0<Wt j then Mx j else Mn j) (List.range n)
def iB(n:Nat)(Mn Mx Wt:Nat->Int)(r p q:Int):Prop:=tD n Mn Mx Wt p q≠0/\0<=r-tC n Mn Mx Wt p q/\p*tD n Mn Mx Wt p q<=(r-tC n Mn Mx Wt p q)*q/\jJ n Mn Mx Wt (r-tC n Mn Mx Wt p q) (tD n Mn Mx Wt p q)=r*tD n Mn Mx Wt p q
theorem Ep{n}{r}{a}{A S}{L W}{m}(h:bV n Mn Mx Wt r a A S L W m)(hw:∀j,Mn j<=Mx j)(hp:∀j,0<=Wt j)(hW:0<W)  p q  (ZT:p*W<=L*q) (hA:∀j∈A,pu (Mn j) (Mx j) (Wt j) p q=false) (hS:∀j∈S,pu (Mn j) (Mx j) (Wt j) p q=true):iB n Mn Mx Wt r p q:=by
 obtain⟨nA,nS,hd,fA,fS,eI⟩:=h.facts;have zch:∀j,j<n->j∉A->j∉S->Wt j=0/\pu (Mn j) (Mx j) (Wt j) p q=false:=fun j hj h1 h2=>by grind[pu]
 have eW:tD n Mn Mx Wt p q=W:=by
  unfold tD;rw[h.weight,<-ol nS (fun j hj=>(fS j hj).1)];refine bo fun j hj=>?_;have hj:j<n:=by simpa using hj
  by_cases h2:j∈S;·grind
  ·grind
 have eB:tC n Mn Mx Wt p q=aA Mn (List.range n)+aA (fun j=>Mx j-Mn j) A:=by
  unfold tC;rw[<-ol (f:=fun j=>Mx j-Mn j) nA (fun j hj=>(fA j hj).1),<-fx];refine bo fun j hj=>?_;have hj:j<n:=by simpa using hj
  by_cases h1:j∈A;·grind
  ·grind
 have eL:r-tC n Mn Mx Wt p q=L:=by rw[eB,h.left];omega
 unfold iB;rw[eW,eL];exact⟨by omega,h.pos,ZT,h.tots hw hp (by omega)⟩
theorem Cf  A  (hA:A≠[]) (M V:Nat->Int) (hV:∀j∈A,0<V j):∃i∈A,∀j∈A,M j*V i<=M i*V j:=by
 induction A with
 |nil=>grind
 |cons a A ih=>
  by_cases e:A=[];·simp_all
  ·obtain⟨i,hi,r_⟩:=ih e (fun j hj=>hV j (by simp[hj]));by_cases c:M a*V i<=M i*V a;·grind
   ·refine⟨a,by simp,fun j hj=>?_⟩;rcases tk.1 hj with rfl|hj;·omega
    ·have h1:=r_ j hj;have va:=hV a (by simp);have vi:=hV i (by simp[hi]);have vj:=hV j (by simp[hj]);have e1:M j*V i*V a<=M i*V j*V a:=jd h1 (by omega);have e2:M i*V a*V j<=M a*V i*V j:=jd (by omega) (by omega);have e3:M j*V a*V i<=M a*V j*V i:=by rw[eY (M j) (V a) (V i),eY (M a) (V j) (V i)];refine g_ e1 ?_;rw[eY (M i) (V j) (V a)];exact e2
     simp_all
theorem bV.cand{n}{r}{a}{A S}{L W}{m}(h:bV n Mn Mx Wt r a A S L W m)(hw:∀j,Mn j<=Mx j)(hp:∀j,0<=Wt j)(bG:S≠[]):
 iB n Mn Mx Wt r 0 1\/∃i,i<n/\0<Wt i/\iB n Mn Mx Wt r (Mx i-Mn i) (Wt i):=by
 obtain⟨nA,nS,hd,fA,fS,eI⟩:=h.facts;have hW:0<W:=by obtain⟨x,hx⟩:=vx S bG;rw[h.weight];exact oB (fS x hx).2 (iO (fun k _=>hp k) hx)
 by_cases hA:A=[];·subst hA;left;refine Ep h hw hp hW 0 1 (by have:=h.pos;omega) (by simp) fun j hj=>?_;unfold pu;have h1:=h.open_ j hj;have h2:=gQ h.pos (hp j);grind
 ·right;obtain⟨i,hi,r_⟩:=Cf A hA (fun j=>Mx j-Mn j) Wt (fun j hj=>(fA j hj).2);refine⟨i,(fA i hi).1,(fA i hi).2,Ep h hw hp hW _ _ (h.full i hi) (fun j hj=>?_) (fun j hj=>?_)⟩;·unfold pu;have:=r_ j hj;simp only[decide_eq_false_iff_not];rintro⟨_,h2⟩;have e1:(Mx j-Mn j)*Wt i=Mx j*Wt i-Mn j*Wt i:=Int.sub_mul _ _ _;omega
  ·unfold pu;simp only[decide_eq_true_eq];refine⟨(fS j hj).2,?_⟩;have h1:=h.full i hi;have h2:=h.open_ j hj;have wi:=(fA i hi).2;have wj:=(fS j hj).2;have e1:(Mx i-Mn i)*W*Wt j<=L*Wt i*Wt j:=jd h1 (by omega);have e2:=Fe h2 wi;have e3:(Mx i-Mn i)*Wt j*W<(Mx j-Mn j)*Wt i*W:=by rw[eY (Mx i-Mn i) (Wt j) W,eY (Mx j-Mn j) (Wt i) W];refine Int.lt_of_le_of_lt e1 ?_;rw[eY L];exact e2
   have e4:=Rz e3 (by omega);grind
theorem bV.all_full{n}{r}{a}{A}{L W}{m}(h:bV n Mn Mx Wt r a A [] L W m)(hw:∀j,Mn j<=Mx j)(hp:∀j,0<=Wt j){p q}(hq:0<q)(ht:jJ n Mn Mx Wt p q=r*q):
 (∀j,j<n->fk (Mn j) (Mx j) (Wt j) p q=a j*q)/\r=aA a (List.range n):=by
 obtain⟨nA,nS,hd,fA,fS,eI⟩:=h.facts;have hs:=(h.sum hp).2 rfl;have hle:∀j∈List.range n,fk (Mn j) (Mx j) (Wt j) p q<=a j*q:=fun j hj=>by
  have hj:j<n:=by simpa using hj
  rw[h.is j hj];have h1:=(ra (Mn j) (Mx j) (Wt j) p q);grind
 have e1:aA (fun j=>a j*q) (List.range n)=aA a (List.range n)*q:=by rw[je,<-fy];exact bo fun j _=>je _ _
 have Kk:=jZ hle;have ht':aA (fun j=>fk (Mn j) (Mx j) (Wt j) p q) (List.range n)=r*q:=ht;rw[ht',e1]at Kk;have h3:=Rv Kk hq;have hr:r=aA a (List.range n):=by have:=h.pos;omega
 grind[jn]
structure m7(n:Nat)(f:Nat->Int)(b:Nat):Prop where
 lt:b<n
 top:∀j,j<n->f j<=f b
 first:∀j,j<b->f j<f b
theorem m7.uniq{n}{f}{b c}(h:m7 n f b)(k:m7 n f c):b=c:=by
 rcases Nat.lt_trichotomy b c with e|e|e;·have:=k.first b e;have:=h.top c k.lt;omega
 ·exact e
 ·have:=h.first c e;have:=k.top b h.lt;omega
theorem bV.best{n}{r}{a}{A S}{L W}{m}(h:bV n Mn Mx Wt r a A S L W m)(hp:∀j,0<=Wt j)(hW:0<W)  t  (ht:t<m) (hm:m<=S.length) (rest:Nat->Int) {q} (hq:0<q) (hr:∀j,j<n->rest j*W=Oc Wt S L W j*q):
 m7 n (fun j=>if j∈S.take t then-1 else rest j) (S[t]?.getD 0):=by
 obtain⟨nA,nS,hd,fA,fS,eI⟩:=h.facts;have dL:=h.frac_pos hp hW t ht hm;have Km:t<S.length:=by omega
 obtain⟨i,hi⟩:=aj (S[t]?.getD 0);rw[hi]at dL⊢;have ZJ:i∈S:=by rw[<-hi,dN Km];exact l6 Km
 have oZ:S=S.take t++(i::S.drop (t+1)):=by rw[<-hi,dN Km];show S=S.take t++(S[t]::S.drop (t+1));rw[<-List.drop_eq_getElem_cons Km,gO]
 have hnt:i∉S.take t:=by have:=nS;rw[oZ,Mf]at this;exact fun hm=>this.2.2 i hm i (by simp) rfl
 have zg:=h.sorted;rw[oZ,jM]at zg;have Cy:=(MB.1 zg.2.1).1;have ZX:=hr i (fS i ZJ).1;have hfi:Oc Wt S L W i=L*Wt i %W:=by unfold Oc;rw[if_pos ZJ]
 rw[hfi]at ZX;have zfB:0<rest i:=by
  have h1:=Int.mul_pos dL hq;rw[<-ZX]at h1;by_cases e:0<rest i;·exact e
  ·have:rest i*W<=0:=Int.mul_nonpos_of_nonpos_of_nonneg (by omega) (by omega);omega
 have key:∀j,j<n->j∉S.take t->j≠i->(rest j<rest i\/(rest j=rest i/\i<j)):=by
  intro j hj zjZ hji;have Vg:=hr j hj;by_cases ZK:j∈S
  ·have MZ:j∈S.drop (t+1):=by
    rw[oZ]at ZK;rcases lj.1 ZK with h1|h1;·grind
    ·grind
   have hfj:Oc Wt S L W j=L*Wt j %W:=by unfold Oc;rw[if_pos ZK]
   rw[hfj]at Vg;rcases Cy j MZ with h1|⟨h1,h2⟩;·left;have h3:=Fe h1 hq;rw[<-ZX,<-Vg]at h3;exact Rz h3 (by omega)
   ·right;refine⟨?_,h2⟩;rw[<-h1,<-ZX]at Vg;exact Int.eq_of_mul_eq_mul_right (by omega) Vg
  ·left;have hfj:Oc Wt S L W j=0:=by unfold Oc;rw[if_neg ZK]
   rw[hfj,Int.zero_mul]at Vg;have:rest j=0:=by
    rcases Int.mul_eq_zero.1 Vg with h|h;·exact h
    ·omega
   omega
 refine⟨(fS i ZJ).1,fun j hj=>?_,fun j hj=>?_⟩
 ·rw[if_neg hnt];by_cases c:j∈S.take t;·rw[if_pos c];omega
  ·rw[if_neg c];by_cases e:j=i;·rw[e];exact jL _
   ·rcases key j hj c e with h|⟨h,_⟩<;>omega
 ·rw[if_neg hnt];have wP:j<n:=by have:=(fS i ZJ).1;omega
  by_cases c:j∈S.take t;·rw[if_pos c];omega
  ·rw[if_neg c];rcases key j wP c (by omega)with h|⟨_,h⟩<;>omega
theorem AK  f   n k  (hk:k<=n):aA f (List.range n)=aA f (List.range k)+aA f ((List.range n).drop k):=by
 rw[<-ld];congr 1;have:List.range k=(List.range n).take k:=by rw[List.take_range,Nat.min_eq_left hk]
 rw[this,gO]
theorem zD{n k j}(h:j∈(List.range n).drop k):k<=j/\j<n:=by obtain⟨i,hi,e⟩:=ox.1 h;grind
theorem qn.le_of{n}{mn}{r}{g g'}(h:qn n mn r g)(h':qn n mn r g')  k  (hk:k<n) (e:∀j,j<k->g j=g' j):g' k<=g k:=by
 by_cases c:g' k<=g k;·exact c
 ·exfalso;have hb:=h'.bd k hk;have s1:=AK g n (k+1) (by omega);have s2:=AK g' n (k+1) (by omega);have t1:aA g ((List.range n).drop (k+1))<=0:=by
   have:aA g ((List.range n).drop (k+1))<=aA (fun _=>0) ((List.range n).drop (k+1)):=jZ fun j hj=>by have:=zD hj;rw[h.behind k j (by omega) (by omega) (by omega)];omega
   refine g_ this ?_;have z:∀l:List Nat,aA (fun _=>(0:Int)) l=0:=by
    intro l;induction l with
    |nil=>rfl
    |cons a l ih=>grind[bN]
   rw[z];exact jL _
  have t2:0<=aA g' ((List.range n).drop (k+1)):=cy fun j hj=>(h'.bd j (zD hj).2).1;have t3:aA g (List.range k)=aA g' (List.range k):=bo fun j hj=>e j (by grind);rw[ka,dj]at s1 s2;have:=h.sum;have:=h'.sum;omega
theorem qn.uniq{n}{mn}{r}{g g'}(h:qn n mn r g)(h':qn n mn r g'):∀j,j<n->g j=g' j:=by
 have:∀k,k<=n->∀j,j<k->g j=g' j:=by
  intro k;induction k with
  |zero=>omega
  |succ k ih=>
   intro hk j hj;have ihk:=ih (by omega);by_cases e:j<k;·grind
   ·obtain rfl:j=k:=by omega
    have a1:=h.le_of h' j (by omega) ihk;have a2:=h'.le_of h j (by omega) (fun i hi=>(ihk i hi).symm);omega
 grind
end
section
open Go.RowKit Go.Sort
def lO(Mn Mx Wt:Nat->Int):Prop:=∀j,0<=Mn j/\Mn j<=Mx j/\Mx j<=100000/\0<=Wt j/\Wt j<=100000
structure D_(n:Nat)(Mn Mx Wt:Nat->Int)(r p q:Int)(g:Nat->Int)(S:List Nat)(m:Nat)(base rest:Nat->Int):Prop where
 base_:∀j,j<n->fk (Mn j) (Mx j) (Wt j) p q/q=base j
 rest_:∀j,j<n->fk (Mn j) (Mx j) (Wt j) p q %q=rest j
 left:r-aA base (List.range n)=m
 le:m<=S.length
 nodup:S.Nodup
 lt:∀j∈S,j<n
 best:∀t,t<m->m7 n (fun j=>if j∈S.take t then-1 else rest j) (S[t]?.getD 0)
 is:∀j,j<n->g j=base j+(if j∈S.take m then 1 else 0)
theorem kV{n}{Mn Mx Wt}{r p q}{g}(hM:lO Mn Mx Wt)(hsp:ci n Mn Mx Wt r g)(hle:aA Mn (List.range n)<=r)(hq:0<q)(ht:jJ n Mn Mx Wt p q=r*q):∃S m base rest,D_ n Mn Mx Wt r p q g S m base rest:=by
 have hw:=fun j=>(hM j).2.1;have hp:=fun j=>(hM j).2.2.2.1;rcases hsp with⟨h1,_⟩|⟨_,A,S,L,V,m,h⟩;·omega
 ·obtain⟨nA,nS,hd,fA,fS,eI⟩:=h.facts;by_cases hS:S=[];·subst hS;have hf:=h.all_full hw hp hq ht;refine⟨[],0,g,fun j=>fk (Mn j) (Mx j) (Wt j) p q %q,fun j hj=>?_,fun _ _=>rfl,by omega,by simp,by simp,by simp,fun t ht=>by omega,fun j hj=>by simp⟩;rw[hf.1 j hj];exact Fm _ (by omega)
  ·have hV:0<V:=by obtain⟨x,hx⟩:=vx S hS;rw[h.weight];exact oB (fS x hx).2 (iO (fun k _=>hp k) hx)
   have hpt:=h.parts hw hp hV hq ht;have U_:=h.left_m hp hS;exact⟨S,m,UK Mn Mx Wt A S L V,fun j=>fk (Mn j) (Mx j) (Wt j) p q %q,fun j hj=>(hpt j hj).1,fun _ _=>rfl,U_.2,U_.1,nS,fun j hj=>(fS j hj).1,fun t ht=>h.best hp hV t ht U_.1 _ hq (fun j hj=>(hpt j hj).2),fun j hj=>h.is_bse j hj⟩
theorem m7.congr{n}{f g}{b}(h:m7 n f b)(e:∀j,j<n->f j=g j):m7 n g b:=by
 refine⟨h.lt,fun j hj=>?_,fun j hj=>?_⟩;·rw[<-e j hj,<-e b h.lt];exact h.top j hj
 ·have:=h.lt;rw[<-e j (by omega),<-e b h.lt];exact h.first j hj
theorem D_.uniq{n}{Mn Mx Wt}{r p q}{g g'}{S S'}{m m'}{base QE rest Rn}(h:D_ n Mn Mx Wt r p q g S m base rest)(h':D_ n Mn Mx Wt r p q g' S' m' QE Rn):∀j,j<n->g j=g' j:=by
 have hb:=fun j hj=>(h.base_ j hj).symm.trans (h'.base_ j hj);have hr:=fun j hj=>(h.rest_ j hj).symm.trans (h'.rest_ j hj);have hs:aA base (List.range n)=aA QE (List.range n):=bo fun j hj=>hb j (by grind);have hm:m=m':=by have h1:=h.left;have h2:=h'.left;omega
 subst hm;have ht:∀t,t<=m->S.take t=S'.take t:=by
  intro t;induction t with
  |zero=>grind
  |succ t ih=>
   intro hle;have e:=ih (by omega);have b1:=h.best t (by omega);have b2:=h'.best t (by omega);have b3:=b1.congr (g:=fun j=>if j∈S'.take t then-1 else Rn j) fun j hj=>by grind
   have e2:=b3.uniq b2;have l1:t<S.length:=by have:=h.le;omega
   have l2:t<S'.length:=by have:=h'.le;omega
   rw[dN l1,dN l2]at e2;have e3:S[t]=S'[t]:=e2;rw[l_ l1,l_ l2,e,e3]
 intro j hj;rw[h.is j hj,h'.is j hj,hb j hj,ht m (ai _)]
theorem ci.uniq{n}{Mn Mx Wt}{r}{g g'}(hM:lO Mn Mx Wt)(h:ci n Mn Mx Wt r g)(h':ci n Mn Mx Wt r g'):∀j,j<n->g j=g' j:=by
 have hw:=fun j=>(hM j).2.1;have hp:=fun j=>(hM j).2.2.2.1;have k:=h;have k':=h';rcases h with⟨a,b⟩|⟨a,A,S,L,V,m,p⟩
 ·rcases h' with⟨a',b'⟩|⟨a',_⟩;·exact b.uniq b'
  ·omega
 ·rcases h' with⟨a',_⟩|⟨a',A',S',L',V',m',p'⟩;·omega
  ·obtain⟨_,_,_,fA,fS,eI⟩:=p.facts;obtain⟨_,_,_,fA',fS',ze5⟩:=p'.facts;by_cases e:S=[]
   ·by_cases e':S'=[];·subst e;subst e';intro j hj;rw[p.is j hj,p'.is j hj];grind
    ·have hV:0<V':=by obtain⟨x,hx⟩:=vx S' e';rw[p'.weight];exact oB (fS' x hx).2 (iO (fun k _=>hp k) hx)
     have ht:=p'.tots hw hp (by omega);obtain⟨_,_,_,_,q1⟩:=kV hM k a hV ht;obtain⟨_,_,_,_,q2⟩:=kV hM k' a' hV ht;exact q1.uniq q2
   ·have hV:0<V:=by obtain⟨x,hx⟩:=vx S e;rw[p.weight];exact oB (fS x hx).2 (iO (fun k _=>hp k) hx)
    have ht:=p.tots hw hp (by omega);obtain⟨_,_,_,_,q1⟩:=kV hM k a hV ht;obtain⟨_,_,_,_,q2⟩:=kV hM k' a' hV ht;exact q1.uniq q2
end
section
open Go.RowKit Go.Sort Go.Proofs.Tryz
def eX(a b c:Nat->Int):Nat->List Value
 |0=>[]
 |k+1=>eX a b c k++[Iq (a k),Iq (b k),Iq (c k)]
theorem th  a b c  :∀k,(eX a b c k).length=k*3
 |0=>rfl
 |k+1=>by rw[eX,bf,th a b c k];grind
theorem pE  a b c  :∀k j,j<k->(eX a b c k)[j*3]?=some (Iq (a j))/\(eX a b c k)[j*3+1]?=some (Iq (b j))/\(eX a b c k)[j*3+2]?=some (Iq (c j))
 |0,j,h=>by omega
 |k+1,j,h=>by
  have hl:=th a b c k;by_cases e:j<k;·have:=pE a b c k j e;grind[eX]
  grind[eX]
def zaI(B:Nat)(W:World)(v:Value)(n:Nat)(a b c:Nat->Int):Prop:=∃p al,v=.slice p n al/\(n=0\/∃g,p=some (az g 0)/\B<=g/\eD W g 0 n a b c)
theorem Ba{W}{B n}{e}{v}{a b c}(h:W.ownsRow B e 3 v n (eX a b c n)):zaI B W v n a b c:=by
 have h0:=h;rcases h.2 with⟨rfl,rfl⟩|⟨g,al,iT,rfl,hb,hg,h1,h2,_⟩;·exact⟨none,0,rfl,.inl rfl⟩
 ·refine⟨some (az g 0),al,rfl,.inr ⟨g,rfl,hb,(aS.1 hg).1,fun j hj=>?_⟩⟩;have:=pE a b c n j hj;rw[h0.cellAt _ (by omega),h0.cellAt _ (by omega),h0.cellAt _ (by omega),bC];omega
def UI(W:World)(v:Value)(n:Nat)(a b c:Nat->Int):Prop:=∃p al,v=.slice p n al/\(n=0\/∃g off,p=some (az g off)/\eD W g off n a b c)
theorem UI.below{A B}{v}{n}{a b c}(h:UI A v n a b c)(hb:Bt A B):UI B v n a b c:=by
 obtain⟨p,al,hv,h⟩:=h;refine⟨p,al,hv,?_⟩;rcases h with h|⟨g,off,hp,hr⟩;·omega
 ·exact .inr ⟨g,off,hp,hr.below hb⟩
def vV(w w':World)(v:Value)(n:Nat)(a b c:Nat->Int)(aD bM:Int):Prop:=
 ((n=0\/200<n)/\v=.slice none 0 0/\w'=w)\/(0<n/\n<=200/\∃lb,v=Sq lb n n/\qQ w w' lb n (fun j=>cl (a j)) (fun j=>dK (a j) (b j)) (fun j=>cl (c j)) (rm aD bM n))
theorem lI  v   n   a b c   aD bM   w  (h:UI w v n a b c) (hn:n<=5864062014805):
 Cw 137 #[Iq aD,Iq bM,v] w fun e w'=>∃v,e=Rw v/\vV w w' v n a b c aD bM:=by
 obtain⟨p,al,rfl,h⟩:=h;by_cases h0:n=0\/200<n;·exact(DO p n al aD bM w h0 (by omega)).mono fun e w' ⟨he,hw⟩=>⟨_,he,.inl ⟨h0,rfl,hw⟩⟩
 ·obtain⟨g,off,rfl,hr⟩:=h.resolve_left (fun e=>h0 (.inl e));exact(Hq n g off al a b c aD bM w hr (by omega) (by omega)).mono fun e w' ⟨lb,he,hs⟩=>⟨_,he,.inr ⟨by omega,by omega,lb,rfl,hs⟩⟩
theorem vV.below{w w'}{v}{n}{a b c}{aD bM}(h:vV w w' v n a b c aD bM):Bt w w':=by
 rcases h with⟨_,_,rfl⟩|⟨_,_,lb,_,h⟩;·exact ag _ _
 ·exact h.2.2
end
section
open Go.RowKit Go.Sort
theorem ci.tiles{n}{mn mx wt g}{r}(h:ci n mn mx wt r g)(hm:∀j,0<=mn j/\mn j<=mx j/\mx j<=100000/\0<=wt j/\wt j<=100000):
 (∀j,j<n->0<=g j/\g j<=mx j)/\(r<=aA mn (List.range n)\/r<=aA (fun j=>if 0<wt j then mx j else mn j) (List.range n)->aA g (List.range n)=r)/\
  (aA mn (List.range n)<r->aA (fun j=>if 0<wt j then mx j else mn j) (List.range n)<r->aA g (List.range n)=aA (fun j=>if 0<wt j then mx j else mn j) (List.range n)):=by
 have hle:aA mn (List.range n)<=aA (fun j=>if 0<wt j then mx j else mn j) (List.range n):=jZ fun j _=>by grind
 rcases h with⟨h1,hb⟩|⟨h1,A,S,L,V,m,hp⟩;·refine⟨fun j hj=>?_,fun _=>hb.sum,fun h=>by omega⟩;have:=hb.bd j hj;grind
 ·have ht:=hp.tiles (fun j=>(hm j).2.1) (fun j=>(hm j).2.2.2.1);refine⟨fun j hj=>?_,fun h=>by omega,fun _ h=>by omega⟩;have:=hp.bds (fun j=>(hm j).2.1) (fun j=>(hm j).2.2.2.1) j hj;grind
theorem fY(a b c:Nat->Int)  j  :0<=cl (a j)/\cl (a j)<=dK (a j) (b j)/\dK (a j) (b j)<=100000/\0<=cl (c j)/\cl (c j)<=100000:=
 ⟨(dm _).1,(gE _ _).1,(gE _ _).2,(dm _).1,(dm _).2⟩
end
section
open Go.RowKit Go.Sort Go.Proofs.Tryz
def cm(g:Nat->Int)(cg:Int)(k:Nat):Int:=aA (fun j=>g j+cg) (List.range k)
theorem lH  g   cg   k  :cm g cg (k+1)=cm g cg k+(g k+cg):=by unfold cm;rw[ka,dj]
theorem lG{g}{cg}{n}(hg:∀j,j<n->0<=g j/\g j<=100000)(hc:0<=cg/\cg<=100000)  k  (hk:k<=n):0<=cm g cg k/\cm g cg k<=(k:Int)*200000:=by
 refine⟨cy fun j hj=>by grind,?_⟩;have:=eT (f:=fun j=>g j+cg) (l:=List.range k) (b:=200000) fun j hj=>by grind
 rw[Fg]at this;exact this
def IY(w w':World)(v:Value)(n:Nat)(a b c:Nat->Int)(aD bM:Int):Prop:=
 ((n=0\/200<n)/\v=.slice none 0 0/\w'=w)\/(0<n/\n<=200/\∃lb g,v=Sq lb n n/\cG w' lb 0 n (cm g (cl bM))/\ci n (fun j=>cl (a j)) (fun j=>dK (a j) (b j)) (fun j=>cl (c j)) (rm aD bM n) g/\Bt w w')
theorem IY.below{w w'}{v}{n}{a b c}{aD bM}(h:IY w w' v n a b c aD bM):Bt w w':=by
 rcases h with⟨_,_,rfl⟩|⟨_,_,lb,g,_,_,_,h⟩;·exact ag _ _
 omega
theorem Pj  g   cg   k   j  :oH (fun j=>if j<k then cm g cg j else g j) k (cm g cg k) j=if j<k+1 then cm g cg j else g j:=by grind[oH]
def Sd(w:World)(v:Value):Prop:=∀lb o n c,v=.slice (some (az lb o)) n c->w.heap.size<=lb
theorem zQ(v:Value)(n:Nat)(a b c:Nat->Int)(aD bM:Int)(w:World)(h:UI w v n a b c)(hn:n<=5864062014805):
 Cw 138 #[Iq aD,Iq bM,v] w fun e w'=>∃v,e=Rw v/\IY w w' v n a b c aD bM/\Sd w v:=by
 have C2:Hid (Cw 137 #[Iq aD,Iq bM,v] w fun e w'=>∃v,e=Rw v/\vV w w' v n a b c aD bM):=lI v n a b c aD bM w h hn;have CC:Hid (∀w,Cw 176 #[Iq bM] w fun e w'=>e=Rw (Iq (cl bM))/\w'=w):=fun w=>shClamped_any bM w;have uH:=dm bM;obtain⟨cg,Ge⟩:=aj (cl bM);have HCG:Hid (cl bM=cg):=Ge;rw[Ge]at CC uH;have cg0:=uH.1;have cg1:=uH.2;clear h Ge uH;go_enter func138,ntmps138;go_wp2_with fail;refine C2.out.mono ?_;rintro e w2 ⟨v2,rfl,hs⟩;clear C2;rcases hs with⟨h0,rfl,rfl⟩|⟨h1,h2,lb,rfl,hlb,⟨g,hrow,hsp⟩,Xi⟩
 ·have HO:Hid (IY w2 w2 (.slice none 0 0) n a b c aD bM):=.inl ⟨h0,rfl,rfl⟩;clear h0;go_wp2;go_loop[8,17] (fun s i=>s=Iq 0/\i=Iq 0) (fun _ _=>0);case atStart=>grind
  case round=>obtain⟨rfl,rfl⟩:=hrel;go_wp2;go_ret;exact⟨_,rfl,HO.out,fun lb o n c e=>by cases e⟩
 ·have lz:∀j,j<n->0<=g j/\g j<=100000:=fun j hj=>by have h1:=(hsp.tiles (fY a b c)).1 j hj;have h2:=fY a b c j;omega
  have YM:Hid (∀j,j<n->0<=g j/\g j<=100000):=lz;have RV:Hid (∀k,k<=n->0<=cm g cg k/\cm g cg k<=(k:Int)*200000):=fun k hk=>lG lz ⟨cg0,cg1⟩ k hk;have yb:Hid (ci n (fun j=>cl (a j)) (fun j=>dK (a j) (b j)) (fun j=>cl (c j)) (rm aD bM n) g):=hsp;have R0:Hid (cG w2 lb 0 n (fun j=>if j<0 then cm g cg j else g j)/\Bt w w2):=⟨hrow.congr fun j _=>by simp,Xi⟩;clear lz hsp hrow Xi;go_wp2;go_loopw[8,17] (fun s i wr=>∃k:Nat,s=Iq (cm g cg k)/\i=Iq k/\k<=n/\Hid (cG wr lb 0 n (fun j=>if j<k then cm g cg j else g j)/\Bt w wr)) (fun _ i _=>n-(intOf i).toNat);case atStart=>exact⟨0,rfl,rfl,bc _,R0.out⟩
  case round=>
   obtain⟨k,rfl,rfl,hk,HR⟩:=hrel;by_cases hlt:k<n
   ·have aK:(k:Int)<(n:Int):=by omega
    have hc:=HR.out.1.2 k hlt;dsimp only at hc;rw[if_neg (by omega),bC]at hc;have Cu:=YM.out k hlt;have Te:=RV.out k hk;have ho2:=RV.out (k+1) (by omega);have zb:=lH g cg k;have Gz:=HR.out.1.set k (cm g cg k) hlt;rw[bC]at Gz;have HN:Hid (cG (wr.setCell (az lb k) (Iq (cm g cg k))) lb 0 n (fun j=>if j<k+1 then cm g cg j else g j)/\Bt w (wr.setCell (az lb k) (Iq (cm g cg k)))):=⟨Gz.congr fun j _=>Pj g cg k j,HR.out.2.setCell hlb _⟩;obtain⟨gk,wO⟩:=aj (g k);rw[wO]at hc Cu zb;obtain⟨o1,Kg⟩:=aj (cm g cg k);rw[Kg]at Te zb HN⊢;have HNX:Hid (cm g cg (k+1)=o1+(gk+cg)):=zb;obtain⟨Sh,fl1⟩:=hc;obtain⟨gk0,gk1⟩:=Cu;obtain⟨o10,o11⟩:=Te;clear Gz wO Kg ho2 zb HR;go_wp2_with(go_at_call 176;refine(CC.out _).mono ?_;rintro e w5 ⟨rfl,rfl⟩);go_roundw;case rel=>exact⟨k+1,by rw[HNX.out],by go_num,by omega,HN.out⟩
    grind[intOf]
   ·have qC:¬(k:Int)<(n:Int):=by omega
    obtain rfl:n=k:=by omega
    have HF:Hid (IY w wr (Sq lb n n) n a b c aD bM):=.inr ⟨h1,h2,lb,g,rfl,by rw[HCG.out];exact HR.out.1.congr fun j hj=>by omega,yb.out,HR.out.2⟩;clear HR;go_wp2;go_ret;exact⟨_,rfl,HF.out,fun lb' o n' c' e=>by simp_all⟩
theorem rCl_any(x:Int)(w:World):
 Cw 162 #[Iq x] w fun e w'=>e=Rw (Iq (cl x))/\w'=w:=by
 obtain⟨y,hy⟩:=aj (cl x);rw[hy];unfold cl at hy;by_cases h1:x<0;·rw[if_pos h1]at hy;subst hy;go_enter func162,ntmps162;go_wp2;go_ret;simp_all
 ·rw[if_neg h1]at hy;by_cases h2:100000<x;·rw[if_pos h2]at hy;subst hy;go_enter func162,ntmps162;go_wp2;go_ret;simp_all
  ·rw[if_neg h2]at hy;subst hy;go_enter func162,ntmps162;go_wp2;go_ret;simp_all
theorem vc(aD bM:Int)(n:Nat)(hn:n<=1)(w:World):
 Cw 156 #[Iq aD,Iq bM,Iq n] w fun e w'=>e=Rw (Iq (cl aD))/\w'=w:=by
 have C1:=qH<|fun w=>rCl_any aD w;obtain⟨cr,tv⟩:=aj (cl aD);have b:=dm aD;rw[tv]at C1 b⊢;have b1:=b.1;have h1:¬(1:Int)<(n:Int):=by omega
 have h2:¬cr<0:=by omega
 clear b tv;go_enter func156,ntmps156;go_wp2_with(go_at_call 162;refine(C1 _).mono ?_;rintro e w5 ⟨rfl,rfl⟩);go_ret;simp_all
theorem Hb(aD bM:Int)(n:Nat)(y_:0<n)(hn:n<=200)(w:World):
 Cw 156 #[Iq aD,Iq bM,Iq n] w fun e w'=>e=Rw (Iq (rm aD bM n))/\w'=w:=by
 by_cases ED:n<=1
 ·obtain rfl:n=1:=by omega
  have:=vc aD bM 1 (by omega) w;grind[rm,cl,dm]
 ·have C1:=qH<|fun w=>rCl_any aD w;have C2:=qH<|fun w=>rCl_any bM w;obtain⟨rr,hrr⟩:=aj (rm aD bM n);rw[hrr];unfold rm at hrr;obtain⟨cr,tv⟩:=aj (cl aD);obtain⟨cg,uH⟩:=aj (cl bM);have b:=dm aD;have d:=dm bM;rw[tv]at C1 b hrr;rw[uH]at C2 d hrr;have b1:=b.1;have b2:=b.2;have d1:=d.1;have d2:=d.2;have QW:(1:Int)<(n:Int):=by omega
  have HR:=qH<|hrr;clear b tv d uH hrr;go_enter func156,ntmps156;go_wp2_with(go_at_call 162;first|(refine(C1 _).mono ?_;rintro e w5 ⟨rfl,rfl⟩)|(refine(C2 _).mono ?_;rintro e w5 ⟨rfl,rfl⟩));go_loop[7,9] (fun r k=>∃(j:Nat) (x:Int),r=Iq x/\k=Iq j/\1<=j/\j<=n/\-100000<=x/\x<=100000/\Hid (x=cr-cg*((j:Int)-1))) (fun _ k=>n-(intOf k).toNat);case atStart=>exact⟨1,cr,rfl,rfl,by omega,by omega,by omega,by omega,by simp[Hid]⟩
  case round=>
   obtain⟨j,x,rfl,rfl,OJ,EC,qG,m6,HX⟩:=hrel;by_cases hlt:j<n
   ·have aK:(j:Int)<(n:Int):=by omega
    by_cases dL:0<x
    ·have tr:Hid (x-cg=cr-cg*(((j+1:Nat):Int)-1)):=by show _=_;rw[HX.out,show(((j+1:Nat):Int)-1)=((j:Int)-1)+1 by omega,Int.mul_add,Int.mul_one];omega
     clear HX;go_wp2;grind[intOf]
    ·have hrr:rr=0:=by rw[<-HR.out];have e:=HX.out;have:cg*((j:Int)-1)<=cg*((n:Int)-1):=Mm (by omega) d1;omega
     subst hrr;clear HX;by_cases hz:x<0;·go_wp2;go_ret;simp_all
     ·obtain rfl:x=0:=by omega
      go_wp2;go_ret;simp_all
   ·have aK:¬(j:Int)<(n:Int):=by omega
    obtain rfl:n=j:=by omega
    by_cases hz:x<0
    ·have hrr:rr=0:=by rw[<-HR.out,<-HX.out];omega
     subst hrr;clear HX;go_wp2;go_ret;simp_all
    ·have hrr:rr=x:=by rw[<-HR.out,<-HX.out];omega
     subst hrr;clear HX;go_wp2;go_ret;simp_all
theorem BX  w   a b c  :Bt w (((w.alloc a).alloc b).alloc c):=(((ag _ _).alloc (ai _) _).alloc (by simp) _).alloc (by simp;omega) _
theorem rHeld_any(a b c:Int)(w:World):
 Cw 155 #[.agg #[Iq a,Iq b,Iq c]] w fun e w'=>e=Rw (.agg #[Iq (cl a),Iq (dK a b),Iq (cl c)])/\Bt w w':=by
 have CC:=qH<|rCl_any;have ba:=dm a;have ba1:=ba.1;have ba2:=ba.2;have HE:Hid (∀y,y=dK a b->Ending.returned (.agg #[Iq (cl a),Iq y,Iq (cl c)])=Rw (.agg #[Iq (cl a),Iq (dK a b),Iq (cl c)])):=fun y h=>by rw[h]
 clear ba;by_cases h1:b<0
 ·have HY:Hid (100000=dK a b):=by show _=_;unfold dK;rw[if_pos h1]
  have h2:¬0<=b:=by omega
  have h3:¬100000<cl a:=by omega
  go_enter func155,ntmps155;go_wp2_with(go_at_call 162;refine(CC _ _).mono ?_;rintro e w5 ⟨rfl,rfl⟩);exact bodyPost_ret (v:=.agg #[Iq (cl a),Iq 100000,Iq (cl c)]) (by simp[results,Tryz.results155,go_sem]) rfl ⟨HE _ HY,BX _ _ _ _⟩
 ·have h2:0<=b:=by omega
  by_cases h3:cl b<cl a
  ·have HY:Hid (cl a=dK a b):=by show _=_;unfold dK;rw[if_neg h1,if_pos h3]
   go_enter func155,ntmps155;go_wp2_with(go_at_call 162;refine(CC _ _).mono ?_;rintro e w5 ⟨rfl,rfl⟩);exact bodyPost_ret (v:=.agg #[Iq (cl a),Iq (cl a),Iq (cl c)]) (by simp[results,Tryz.results155,go_sem]) rfl ⟨HE _ HY,BX _ _ _ _⟩
  ·have HY:Hid (cl b=dK a b):=by show _=_;unfold dK;rw[if_neg h1,if_neg h3]
   go_enter func155,ntmps155;go_wp2_with(go_at_call 162;refine(CC _ _).mono ?_;rintro e w5 ⟨rfl,rfl⟩);exact bodyPost_ret (v:=.agg #[Iq (cl a),Iq (cl b),Iq (cl c)]) (by simp[results,Tryz.results155,go_sem]) rfl ⟨HE _ HY,BX _ _ _ _⟩
theorem f_{x y B C:Int}(xS:0<=x)(hx:x<=B)(Tu:0<=y)(hy:y<=C)(hB:0<=B):0<=x*y/\x*y<=B*C:=
 ⟨gQ xS Tu,lm hx hy Tu hB⟩
theorem Dd{a b c p q}(ha:0<=a)(hb:0<=b)(hb2:b<=100000)(hc:0<=c)(hp:0<=p)(Ti:0<=q)(hq:q<=20000000):0<=fk a b c p q/\fk a b c p q<=2000000000000:=by have h1:=f_ hb hb2 Ti hq (by omega);have h2:=gQ ha Ti;have h3:=gQ hp hc;grind[fk]
theorem sL(a b c p q:Int)(w:World)(ha:0<=a/\a<=100000)(hb:0<=b/\b<=100000)(hc:0<=c/\c<=100000)(hp:0<=p/\p<=20000000)(hq:0<=q/\q<=20000000):
 Cw 159 #[.agg #[Iq a,Iq b,Iq c],Iq p,Iq q] w fun e w'=>e=Rw (Iq (fk a b c p q))/\Bt w w':=by
 have h1:=f_ ha.1 ha.2 hq.1 hq.2 (by omega);have h2:=f_ hb.1 hb.2 hq.1 hq.2 (by omega);have h3:=f_ hp.1 hp.2 hc.1 hc.2 (by omega);obtain⟨z,hz⟩:=aj (fk a b c p q);rw[hz];unfold fk at hz;obtain⟨aq,SG⟩:=aj (a*q);obtain⟨bq,Ew⟩:=aj (b*q);obtain⟨pc,Q4⟩:=aj (p*c);rw[SG,Ew,Q4]at hz;rw[SG]at h1;rw[Ew]at h2;rw[Q4]at h3;have a1:=h1.1;have a2:=h1.2;have a3:=h2.1;have a4:=h2.2;have a5:=h3.1;have a6:=h3.2;clear h1 h2 h3 ha hb hc hp hq;by_cases c1:bq<aq+pc;·rw[if_pos c1]at hz;subst hz;go_enter func159,ntmps159;go_wp2;go_ret;exact⟨rfl,(ag _ _).alloc (ai _) _⟩
 ·rw[if_neg c1]at hz;subst hz;go_enter func159,ntmps159;go_wp2;go_ret;exact⟨rfl,(ag _ _).alloc (ai _) _⟩
theorem Dv(n blk off al:Nat)(Mn Mx Wt:Nat->Int)(p q:Int)(w:World)(h:eD w blk off n Mn Mx Wt)(hn:n<=200)(hM:lO Mn Mx Wt)(hp:0<=p/\p<=20000000)(hq:0<=q/\q<=20000000):
 Cw 189 #[.slice (some (az blk off)) n al,Iq p,Iq q] w fun e w'=>e=Rw (Iq (jJ n Mn Mx Wt p q))/\Bt w w':=by
 have HW:=qH<|h;have HM:=qH<|hM;have _8:Hid ((0<=p/\p<=20000000)/\(0<=q/\q<=20000000)):=⟨hp,hq⟩;have CL:=qH<|fun a b c w ha hb hc=>sL a b c p q w ha hb hc hp hq;clear h hM hp hq;go_enter func189,ntmps189;go_wp2;go_loopw[7,8] (fun s i wr=>∃(k:Nat) (x:Int),s=Iq x/\i=Iq k/\k<=n/\0<=x/\x<=(k:Int)*2000000000000/\Hid (x=jJ k Mn Mx Wt p q)/\Bt w wr) (fun _ i _=>n-(intOf i).toNat);case atStart=>exact⟨0,0,rfl,rfl,bc _,by omega,by omega,rfl,ag _ _⟩
 case round=>
  obtain⟨k,x,rfl,rfl,hk,x0,x1,HX,hbw⟩:=hrel;by_cases hlt:k<n
  ·have aK:(k:Int)<(n:Int):=by omega
   have eu:=HW.below hbw;obtain⟨c0,c1,c2⟩:=eu.2 k hlt;have hz:=eu.1;have hm:=HM k;obtain⟨a1,ha1⟩:=aj (Mn k);obtain⟨a2,ha2⟩:=aj (Mx k);obtain⟨a3,ha3⟩:=aj (Wt k);rw[ha1]at c0;rw[ha2]at c1;rw[ha3]at c2;rw[ha1,ha2,ha3]at hm;obtain⟨d1,d2,d3,d4,d5⟩:=hm;have C:=CL a1 a2 a3 wr ⟨d1,by omega⟩ ⟨by omega,d3⟩ ⟨d4,d5⟩;obtain⟨lv,Va⟩:=aj (fk a1 a2 a3 p q);have hlb:=Dd (a:=a1) (b:=a2) (c:=a3) (p:=p) (q:=q) d1 (by omega) d3 d4 _8.1.1 _8.2.1 _8.2.2;rw[Va]at C hlb;have HC:Hid _:=C;have tr:Hid (x+lv=jJ (k+1) Mn Mx Wt p q):=by show _=_;unfold jJ;rw[ka,dj,ha1,ha2,ha3,Va];have:=HX.out;unfold jJ at this;omega
   have l1:=hlb.1;have l2:=hlb.2;have Gl:((k+1:Nat):Int)*2000000000000=(k:Int)*2000000000000+2000000000000:=by omega
   have hzr:=hbw.size;clear eu ha1 ha2 ha3 C Va hlb HX;go_wp2_with fail;refine am HC ?_;rintro e w5 ⟨rfl,b5⟩;have oP:=hbw.trans (b5.mono hzr);clear b5 hbw HC;go_wp2;go_roundw;case rel=>exact⟨k+1,x+lv,rfl,by go_num,by omega,by omega,by omega,tr,oP⟩
   grind[intOf]
  ·have qC:¬(k:Int)<(n:Int):=by omega
   obtain rfl:n=k:=by omega
   have HE:Hid (Ending.returned (Iq x)=Rw (Iq (jJ n Mn Mx Wt p q))):=by show _=_;rw[HX.out]
   clear HX;go_wp2;go_ret;exact⟨HE,hbw⟩
theorem Ha(n blk off al:Nat)(Mn Mx Wt:Nat->Int)(p q:Int)(w:World)(h:eD w blk off n Mn Mx Wt)(hn:n<=200)(hM:lO Mn Mx Wt)(hp:0<=p/\p<=100000)(hq:0<=q/\q<=100000):
 Cw 188 #[.slice (some (az blk off)) n al,Iq p,Iq q] w fun e w'=>e=Rw (.tuple #[Iq (tD n Mn Mx Wt p q),Iq (tC n Mn Mx Wt p q)])/\Bt w w':=by
 have HW:=qH<|h;have HM:=qH<|hM;have p0:=hp.1;have p1:=hp.2;have q0:=hq.1;have q1:=hq.2;clear h hM hp hq;go_enter func188,ntmps188;go_wp2;go_loopw[8,9,10] (fun s t i wr=>∃(k:Nat) (x y:Int),s=Iq x/\t=Iq y/\i=Iq k/\k<=n/\0<=x/\x<=(k:Int)*100000/\0<=y/\y<=(k:Int)*100000/\Hid (x=tD k Mn Mx Wt p q)/\Hid (y=tC k Mn Mx Wt p q)/\Bt w wr) (fun _ _ i _=>n-(intOf i).toNat);case atStart=>exact⟨0,0,0,rfl,rfl,rfl,bc _,by omega,by omega,by omega,by omega,rfl,rfl,ag _ _⟩
 case round=>
  obtain⟨k,x,y,rfl,rfl,rfl,hk,x0,x1,y0,y1,HX,HY,hbw⟩:=hrel;by_cases hlt:k<n
  ·have aK:(k:Int)<(n:Int):=by omega
   have eu:=HW.below hbw;obtain⟨c0,c1,c2⟩:=eu.2 k hlt;have hz:=eu.1;have hm:=HM k;obtain⟨a1,ha1⟩:=aj (Mn k);obtain⟨a2,ha2⟩:=aj (Mx k);obtain⟨a3,ha3⟩:=aj (Wt k);rw[ha1]at c0;rw[ha2]at c1;rw[ha3]at c2;rw[ha1,ha2,ha3]at hm;obtain⟨d1,d2,d3,d4,d5⟩:=hm;have Gl:((k+1:Nat):Int)*100000=(k:Int)*100000+100000:=by omega
   have hzr:=hbw.size;have Sw:tD (k+1) Mn Mx Wt p q=x+(if pu a1 a2 a3 p q then a3 else 0):=by unfold tD;rw[ka,dj,ha1,ha2,ha3];have:=HX.out;unfold tD at this;omega
   have Sy:tC (k+1) Mn Mx Wt p q=y+(if pu a1 a2 a3 p q then a1 else if 0<a3 then a2 else a1):=by unfold tC;rw[ka,dj,ha1,ha2,ha3];have:=HY.out;unfold tC at this;omega
   have h1:=f_ d1 (show a1<=100000 by omega) q0 q1 (by omega);have h2:=f_ (show 0<=a2 by omega) d3 q0 q1 (by omega);have h3:=f_ p0 p1 d4 d5 (by omega);obtain⟨aq,SG⟩:=aj (a1*q);obtain⟨bq,Ew⟩:=aj (a2*q);obtain⟨pc,Q4⟩:=aj (p*a3);have hrb:pu a1 a2 a3 p q=decide (0<a3/\aq+pc<bq):=by unfold pu;rw[SG,Ew,Q4]
   rw[SG]at h1;rw[Ew]at h2;rw[Q4]at h3;obtain⟨r1,r2⟩:=h1;obtain⟨r3,r4⟩:=h2;obtain⟨r5,r6⟩:=h3;rw[hrb]at Sw Sy;clear hrb eu ha1 ha2 ha3 HX HY;by_cases k1:0<a3
   ·by_cases k2:aq+pc<bq
    ·have tr:Hid (x+a3=tD (k+1) Mn Mx Wt p q):=by show _=_;rw[Sw];simp[k1,k2]
     have NE:Hid (y+a1=tC (k+1) Mn Mx Wt p q):=by show _=_;rw[Sy];simp[k1,k2]
     clear Sw Sy;go_wp2;go_roundw;case rel=>exact⟨k+1,x+a3,y+a1,rfl,rfl,by go_num,by omega,by omega,by omega,by omega,by omega,tr,NE,hbw.alloc hzr _⟩
     grind[intOf]
    ·have tr:Hid (x=tD (k+1) Mn Mx Wt p q):=by show _=_;rw[Sw];simp[k2]
     have NE:Hid (y+a2=tC (k+1) Mn Mx Wt p q):=by show _=_;rw[Sy];simp[k1,k2]
     clear Sw Sy;go_wp2;go_roundw;case rel=>exact⟨k+1,x,y+a2,rfl,rfl,by go_num,by omega,by omega,by omega,by omega,by omega,tr,NE,hbw.alloc hzr _⟩
     grind[intOf]
   ·have tr:Hid (x=tD (k+1) Mn Mx Wt p q):=by show _=_;rw[Sw];simp[k1]
    have NE:Hid (y+a1=tC (k+1) Mn Mx Wt p q):=by show _=_;rw[Sy];simp[k1]
    clear Sw Sy;go_wp2;go_roundw;case rel=>exact⟨k+1,x,y+a1,rfl,rfl,by go_num,by omega,by omega,by omega,by omega,by omega,tr,NE,hbw.alloc hzr _⟩
    grind[intOf]
  ·have qC:¬(k:Int)<(n:Int):=by omega
   obtain rfl:n=k:=by omega
   have HE:Hid (Ending.returned (.tuple #[Iq x,Iq y])=Rw (.tuple #[Iq (tD n Mn Mx Wt p q),Iq (tC n Mn Mx Wt p q)])):=by show _=_;rw[HX.out,HY.out]
   clear HX HY;go_wp2;go_ret2;exact⟨HE,hbw⟩
theorem op_bds{n}{Mn Mx Wt}(hM:lO Mn Mx Wt)(hn:n<=200)  p q  :0<=tD n Mn Mx Wt p q/\tD n Mn Mx Wt p q<=20000000/\0<=tC n Mn Mx Wt p q/\tC n Mn Mx Wt p q<=20000000:=by
 have a1:0<=tD n Mn Mx Wt p q:=cy fun j _=>by have:=hM j;omega
 have a2:tD n Mn Mx Wt p q<=((List.range n).length:Int)*100000:=eT fun j _=>by have:=hM j;omega
 have a3:0<=tC n Mn Mx Wt p q:=cy fun j _=>by have:=hM j;omega
 have a4:tC n Mn Mx Wt p q<=((List.range n).length:Int)*100000:=eT fun j _=>by have:=hM j;omega
 grind
def uj(n:Nat)(Mn Mx Wt:Nat->Int)(r:Int)(i:Nat):Prop:=(0<i->¬iB n Mn Mx Wt r 0 1)/\∀j,j+1<i->0<Wt j->¬iB n Mn Mx Wt r (Mx j-Mn j) (Wt j)
def D'(n:Nat)(Mn Mx Wt:Nat->Int)(r p q:Int):Prop:=(p=0/\q=0/\uj n Mn Mx Wt r (n+1))\/(0<q/\q<=20000000/\0<=p/\p<=100000/\jJ n Mn Mx Wt p q=r*q)
theorem yK{n}{Mn Mx Wt}{r p q w b}(hw:tD n Mn Mx Wt p q=w)(hb:tC n Mn Mx Wt p q=b):iB n Mn Mx Wt r p q↔(w≠0/\0<=r-b/\p*w<=(r-b)*q/\jJ n Mn Mx Wt (r-b) w=r*w):=by grind[iB]
theorem Ac(n blk off al:Nat)(Mn Mx Wt:Nat->Int)(r:Int)(w:World)(h:eD w blk off n Mn Mx Wt)(hn:n<=200)(hM:lO Mn Mx Wt)(hr:0<=r/\r<=100000):
 Cw 158 #[.slice (some (az blk off)) n al,Iq r] w fun e w'=>∃p q,e=Rw (.tuple #[Iq p,Iq q])/\D' n Mn Mx Wt r p q/\Bt w w':=by
 have HW:=qH<|h;have HM:=qH<|hM;have r0:=hr.1;have r1:=hr.2;have CO:=qH<|fun p q w h hp hq=>Ha n blk off al Mn Mx Wt p q w h hn hM hp hq;have CT:=qH<|fun p q w h hp hq=>Dv n blk off al Mn Mx Wt p q w h hn hM hp hq;have RV:=qH<|op_bds hM hn;clear h hM hr;go_enter func158,ntmps158;go_wp2;go_loopw[6] (fun i wr=>∃k:Nat,i=Iq ((k:Int)-1)/\k<=n+1/\Hid (uj n Mn Mx Wt r k)/\Bt w wr) (fun i _=>((n:Int)-intOf i).toNat);case atStart=>exact⟨0,rfl,by omega,⟨fun h=>by omega,fun j hj=>by omega⟩,ag _ _⟩
 case round=>
  obtain⟨k,rfl,hk,Fv,hbw⟩:=hrel;match k with
  |0=>
   have HBN:Hid (¬iB n Mn Mx Wt r 0 1->uj n Mn Mx Wt r (0+1)):=fun h=>⟨fun _=>h,fun j hj=>by omega⟩;have R5:=HW.below hbw;have HBW:=qH<|hbw;have Gj:((0:Nat):Int)-1<(n:Int):=by omega
   clear hbw Fv;go_wp2_with fail;have HO:=CO 0 1 wr R5 ⟨by omega,by omega⟩ ⟨by omega,by omega⟩;have xP:=RV 0 1;obtain⟨ow,how⟩:=aj (tD n Mn Mx Wt 0 1);obtain⟨ob,Cz⟩:=aj (tC n Mn Mx Wt 0 1);rw[how,Cz]at HO xP;have VN:=qH<|HO;have qp:=yK (r:=r) how Cz;obtain⟨ow0,Vo,ob0,ob1⟩:=xP;clear HO how Cz;refine am VN ?_;rintro e w5 ⟨rfl,b5⟩;have qY:=HBW.trans (b5.mono HBW.size);have Z0:=qY.size;clear b5 VN;by_cases cw:ow=0
   ·have HN:=qH<|HBN fun hg=>(qp.1 hg).1 cw;subst cw;clear qp HBN;go_wp2;go_roundw;case rel=>exact⟨0+1,by go_num,by omega,HN,qY⟩
    simp_all[intOf]
   ·have cw':(ow==0)=false:=by simpa using cw
    obtain⟨aa,haa⟩:=aj (r-ob);rw[haa]at qp;have aa1:aa<=100000:=by omega
    have aa0:-20000000<=aa:=by omega
    by_cases ca:aa<0
    ·have HN:=qH<|HBN fun hg=>by have:=(qp.1 hg).2.1;omega
     clear qp HBN;go_wp2;go_roundw;case rel=>exact⟨0+1,by go_num,by omega,HN,qY⟩
     simp_all[intOf]
    ·have HG:=qp;clear qp;by_cases cx:aa*1<0*ow;·exact absurd cx (by omega)
     ·have hT:=CT aa ow w5 (HW.below qY) ⟨by omega,by omega⟩ ⟨by omega,by omega⟩;obtain⟨tt,htt⟩:=aj (jJ n Mn Mx Wt aa ow);obtain⟨rw,hrw⟩:=aj (r*ow);have Yp:=f_ r0 r1 ow0 Vo (by omega);rw[hrw]at Yp;obtain⟨rwc,rwd⟩:=Yp;rw[htt]at hT;have HT:=qH<|hT;have Nz:=qH<|htt;have qr:=qH<|hrw;have HN:=qH<|HBN.out;have RH:=qH<|fun hg=>(HG.1 hg).2.2.2;clear HG hT htt HBN;go_wp2_with fail;refine am HT ?_;rintro e w6 ⟨rfl,b6⟩;have oP:=qY.trans (b6.mono Z0);clear b6 HT;by_cases cT:tt=rw;·have HR:Hid (D' n Mn Mx Wt r aa ow):=.inr ⟨by omega,Vo,by omega,by omega,by rw[Nz.out,qr.out];exact cT⟩;subst cT;clear qY Nz qr RH HN;go_wp2;go_ret2;exact⟨aa,ow,rfl,HR,oP⟩
      ·have oC:=qH<|HN fun hg=>cT (by have:=RH hg;rw[Nz.out,qr.out]at this;exact this);have cT':(tt==rw)=false:=by simpa using cT
       clear qY Nz qr RH HN;go_wp2;go_roundw;case rel=>exact⟨0+1,by go_num,by omega,oC,oP⟩
       case measure=>first|(simp[intOf];done)|(simp[intOf];omega)
  |j+1=>
   by_cases wP:j<n
   ·have hji:((j+1:Nat):Int)-1=(j:Int):=by omega
    rw[hji];have S8:(j:Int)<(n:Int):=by omega
    have eu:=HW.below hbw;obtain⟨c0,c1,c2⟩:=eu.2 j wP;have hz:=eu.1;have hm:=HM j;obtain⟨a1,ha1⟩:=aj (Mn j);obtain⟨a2,ha2⟩:=aj (Mx j);obtain⟨a3,ha3⟩:=aj (Wt j);obtain⟨pp,hpp⟩:=aj (a2-a1);rw[ha1]at c0;rw[ha2]at c1;rw[ha3]at c2;rw[ha1,ha2,ha3]at hm;obtain⟨d1,d2,d3,d4,d5⟩:=hm;have HBN:Hid (¬(0<a3/\iB n Mn Mx Wt r pp a3)->uj n Mn Mx Wt r (j+1+1)):=fun h=>by
     refine⟨fun _=>Fv.1 (by omega),fun i hi GB=>?_⟩;by_cases e:i=j;·subst e;rw[ha1,ha2,ha3,hpp];rw[ha3]at GB;exact fun hg=>h ⟨GB,hg⟩
     ·exact Fv.2 i (by omega) GB
    clear ha1 ha2 ha3 eu Fv;by_cases c3:a3=0
    ·have HN:=qH<|HBN (by omega);subst c3;clear HBN;go_wp2;go_roundw;case rel=>exact⟨j+1+1,by go_num,by omega,HN,hbw⟩
     case measure=>first|(simp[intOf];done)|(simp[intOf];omega)
    ·have c3':(a3==0)=false:=by simpa using c3
     have HBN2:Hid (¬iB n Mn Mx Wt r pp a3->uj n Mn Mx Wt r (j+1+1)):=fun h=>HBN fun hg=>h hg.2;clear HBN;have wpp:IntKind.i64.wrap pp=pp:=IntWalk.i64_in _ ⟨by omega,by omega⟩;have R5:eD wr.drew blk off n Mn Mx Wt:=HW.below (below_drewN hbw 1);have HBW:Hid (Bt w wr.drew):=below_drewN hbw 1;have c2d:wr.drew.cell? (az blk (off+j*3+2))=some (Iq a3):=c2;have pp0:0<=pp:=by omega
     have pp1:pp<=100000:=by omega
     have a30:1<=a3:=by omega
     clear hbw;go_wp2_with fail;go_big_region;go_wp2_with fail;clear hpp;have HO:=CO pp a3 wr.drew R5 ⟨by omega,by omega⟩ ⟨by omega,by omega⟩;have xP:=RV pp a3;obtain⟨ow,how⟩:=aj (tD n Mn Mx Wt pp a3);obtain⟨ob,Cz⟩:=aj (tC n Mn Mx Wt pp a3);rw[how,Cz]at HO xP;have VN:=qH<|HO;have qp:=yK (r:=r) how Cz;obtain⟨ow0,Vo,ob0,ob1⟩:=xP;clear HO how Cz;refine am VN ?_;rintro e w5 ⟨rfl,b5⟩;have qY:=HBW.trans (b5.mono HBW.size);have Z0:=qY.size;clear b5 VN;by_cases cw:ow=0
     ·have HN:=qH<|HBN2 fun hg=>(qp.1 hg).1 cw;subst cw;clear qp HBN2;go_wp2;go_roundw;case rel=>exact⟨j+1+1,by go_num,by omega,HN,qY⟩
      case measure=>first|(simp[intOf];done)|(simp[intOf];omega)
     ·have cw':(ow==0)=false:=by simpa using cw
      obtain⟨aa,haa⟩:=aj (r-ob);rw[haa]at qp;have aa1:aa<=100000:=by omega
      have aa0:-20000000<=aa:=by omega
      by_cases ca:aa<0
      ·have HN:=qH<|HBN2 fun hg=>by have:=(qp.1 hg).2.1;omega
       clear qp HBN2;go_wp2;go_roundw;case rel=>exact⟨j+1+1,by go_num,by omega,HN,qY⟩
       case measure=>first|(simp[intOf];done)|(simp[intOf];omega)
      ·have HG:=qp;clear qp;obtain⟨x1,qG⟩:=aj (aa*a3);obtain⟨x2,m6⟩:=aj (pp*ow);rw[qG,m6]at HG;have x1b:=f_ (show 0<=aa by omega) (show aa<=100000 by omega) (show 0<=a3 by omega) (show a3<=100000 by omega) (by omega);have x2b:=f_ (show 0<=pp by omega) (show pp<=100000 by omega) (show 0<=ow by omega) Vo (by omega);rw[qG]at x1b;rw[m6]at x2b;obtain⟨x1c,x1d⟩:=x1b;obtain⟨x2c,x2d⟩:=x2b;by_cases cx:x1<x2
       ·have HN:=qH<|HBN2 fun hg=>by have:=(HG.1 hg).2.2.1;omega
        clear HG HBN2;go_wp2;go_roundw;case rel=>exact⟨j+1+1,by go_num,by omega,HN,qY⟩
        case measure=>first|(simp[intOf];done)|(simp[intOf];omega)
       ·have hT:=CT aa ow w5 (HW.below qY) ⟨by omega,by omega⟩ ⟨by omega,by omega⟩;obtain⟨tt,htt⟩:=aj (jJ n Mn Mx Wt aa ow);obtain⟨rw,hrw⟩:=aj (r*ow);have Yp:=f_ r0 r1 ow0 Vo (by omega);rw[hrw]at Yp;obtain⟨rwc,rwd⟩:=Yp;rw[htt]at hT;have HT:=qH<|hT;have Nz:=qH<|htt;have qr:=qH<|hrw;have HN:=qH<|HBN2.out;have RH:=qH<|fun hg=>(HG.1 hg).2.2.2;clear HG hT htt HBN2;go_wp2_with fail;refine am HT ?_;rintro e w6 ⟨rfl,b6⟩;have oP:=qY.trans (b6.mono Z0);clear b6 HT;by_cases cT:tt=rw;·have HR:Hid (D' n Mn Mx Wt r aa ow):=.inr ⟨by omega,Vo,by omega,by omega,by rw[Nz.out,qr.out];exact cT⟩;subst cT;clear qY Nz qr RH HN;go_wp2;go_ret2;exact⟨aa,ow,rfl,HR,oP⟩
        ·have oC:=qH<|HN fun hg=>cT (by have:=RH hg;rw[Nz.out,qr.out]at this;exact this);have cT':(tt==rw)=false:=by simpa using cT
         clear qY Nz qr RH HN;go_wp2;go_roundw;case rel=>exact⟨j+1+1,by go_num,by omega,oC,oP⟩
         case measure=>first|(simp[intOf];done)|(simp[intOf];omega)
   ·obtain rfl:n=j:=by omega
    have S8:¬((n+1:Nat):Int)-1<(n:Int):=by omega
    have HR:Hid (D' n Mn Mx Wt r 0 0):=.inl ⟨rfl,rfl,Fv⟩;clear Fv;go_wp2;go_ret2;exact⟨0,0,rfl,HR,hbw⟩
theorem I6.set{w wr}{cw lb n k}{mn mx wt}(h:I6 w wr cw lb n k mn mx wt)(hk:k<n)(bG:lb≠cw)(hB:w.heap.size<=lb):I6 w (wr.setCell (az lb (0+k)) (Iq (mn k))) cw lb n (k+1) mn mx wt:=by refine⟨(h.len.set k (mn k) hk).congr fun j hj=>?_,h.want.other _ _ _ bG,h.bel.setCell hB _⟩;grind[oH]
theorem LO  g   n c  (hc:c<n)  v  :aA (oH g c v) (List.range n)=aA g (List.range n)-g c+v:=by
 have e:aA (oH g c v) (List.range n)=aA g (List.range n)+aA (fun j=>if j∈[c]then v-g j else 0) (List.range n):=by
  rw[<-fx];refine bo fun j _=>?_;unfold oH;by_cases e:j=c;·grind
  ·simp[e]
 rw[e,ol (by simp) (fun j hj=>by grind)];rw[bN,om];omega
structure yg(n:Nat)(mn:Nat->Int)(r:Int)(c:Nat)(s:Int)(g:Nat->Int):Prop where
 ahead:∀j,j<c->g j=mn j
 bd:∀j,j<n->0<=g j/\g j<=mn j
 sum:s=aA g (List.range n)
 ge:r<=s
 zero:r<s->∀j,c<=j->j<n->g j=0
 behind:∀i k,i<k->k<n->g i<mn i->g k=0
theorem yg.next{n}{mn}{r}{c}{s}{g}(h:yg n mn r (c+1) s g)(hc:c<n)(Il:r<s)  y  (hy:y=min (s-r) (g c)):yg n mn r c (s-y) (oH g c (g c-y)):=by
 have hb:=h.bd c hc;have bG:∀j,j≠c->oH g c (g c-y) j=g j:=fun j e=>by grind[oH]
 have UT:oH g c (g c-y) c=g c-y:=by unfold oH;rw[if_pos rfl]
 refine⟨fun j hj=>?_,fun j hj=>?_,?_,by omega,fun hlt j h1 h2=>?_,fun i k MY hk hlt=>?_⟩;·rw[bG j (by omega)];exact h.ahead j (by omega)
 ·by_cases e:j=c;·grind
  ·rw[bG j e];exact h.bd j hj
 ·rw[LO g n c hc,<-h.sum];omega
 ·by_cases e:j=c;·grind
  ·rw[bG j e];exact h.zero Il j (by omega) h2
 ·by_cases e:k=c;·subst e;rw[bG i (by omega),h.ahead i (by omega)]at hlt;omega
  ·rw[bG k e];by_cases e2:k<c;·rw[bG i (by omega),h.ahead i (by omega)]at hlt;omega
   ·exact h.zero Il k (by omega) hk
theorem yg.back{n}{mn}{r}{c}{s}{g}(h:yg n mn r c s g)(hr:0<=r)(he:c=0\/s<=r):qn n mn r g:=by
 refine⟨h.bd,?_,h.behind⟩;by_cases e:r<s
 ·rcases he with e2|e2
  ·subst e2;have hz:aA g (List.range n)<=0:=by
    have:aA g (List.range n)<=((List.range n).length:Int)*0:=eT fun j hj=>by rw[h.zero e j (by omega) (by grind)];omega
    omega
   have:=h.sum;omega
  ·omega
 ·have:=h.sum;have:=h.ge;omega
theorem rShrunk_any(n blk al:Nat)(Mn Mx Wt:Nat->Int)(r:Int)(w:World)(h:eD w blk 0 n Mn Mx Wt)(hn:n<=200)(hM:lO Mn Mx Wt)(hr:0<=r/\r<=100000)(hlt:r<aA Mn (List.range n)):
 Calls prog 157 #[Sq blk n al,Iq r] w fun e w'=>e=.returned (Sq w.heap.size n n)/\(∃g,cG w' w.heap.size 0 n g/\qn n Mn r g)/\Below w.heap.size w w':=by
 have HW:=qH<|h;have HM:=qH<|hM;have HLT:=qH<|hlt;have r0:=hr.1;have r1:=hr.2;have hzb:=h.1;have gR:=run_make_row' (P:=prog) 98 3 (Iq 0) 8 underlying98 gI rfl .i64 .i64 n (by omega) (by omega);clear h hM hr hlt;go_enter func157,ntmps157;go_wp2;have S0:Hid (I6 w (w.alloc (.cells (madeCells #[Iq 0] n) 3)) blk w.heap.size n 0 Mn Mx Wt):=by
  have b1:Below w.heap.size w (w.alloc (.cells (madeCells #[Iq 0] n) 3)):=(ag _ w).alloc (ai _) _;refine⟨⟨by simp,fun j hj=>⟨?_,?_⟩⟩,HW.below b1,b1⟩;·rw[World.cell?_alloc_at _ _ _ _ rfl];simp[madeCells,hj,vI]
  ·simp_all
 obtain⟨lb,hlb⟩:=aj w.heap.size;have Qo:Hid (∀k,aA Mn (List.range (k+1))=aA Mn (List.range k)+Mn k):=fun k=>by rw[ka,dj]
 have Sp:w.heap.size<=lb:=by omega
 have tN:blk<lb:=by omega
 have Nk:=qH<|hlb;rw[hlb]at S0⊢;clear gR HW;go_loopw[6,7] (fun s i wr=>∃(k:Nat) (x:Int),s=Iq x/\i=Iq k/\k<=n/\0<=x/\x<=(k:Int)*100000/\Hid (x=aA Mn (List.range k))/\Hid (I6 w wr blk lb n k Mn Mx Wt)) (fun _ i _=>n-(intOf i).toNat);case atStart=>exact⟨0,0,rfl,rfl,bc _,by omega,by omega,rfl,S0⟩
 case round=>
  obtain⟨k,x,rfl,rfl,hk,x0,x1,HX,HS⟩:=hrel;by_cases hlt:k<n
  ·have aK:(k:Int)<(n:Int):=by omega
   have hs:=HS.out;have Tk:=Qo k;have UQ:=(hs.want.2 k hlt).1;rw[bC]at UQ;obtain⟨a1,ha1⟩:=aj (Mn k);have gR:=HM k;rw[ha1]at Tk UQ gR;have hzc:=hs.want.1;have OZ:=hs.len.1;have Sh:wr.cell? (az lb k)=some (Iq 0):=by have:=(hs.len.2 k hlt).1;dsimp only at this;rw[if_neg (by omega),bC]at this;exact this
   have fl1:wr.frozen? (az lb k)=false:=by have:=(hs.len.2 k hlt).2;rw[bC]at this;exact this
   have tr:Hid (x+a1=aA Mn (List.range (k+1))):=by show _=_;rw[Tk,HX.out]
   have HN:Hid (I6 w (wr.setCell (az lb k) (Iq a1)) blk lb n (k+1) Mn Mx Wt):=by have:=hs.set hlt (by omega) (by omega);rw[ha1,bC]at this;exact this
   have kI:=gR.1;have hm2:a1<=100000:=by omega
   have Gl:((k+1:Nat):Int)*100000=(k:Int)*100000+100000:=by omega
   clear hs Tk ha1 gR HX HS;go_wp2;go_roundw;case rel=>exact⟨k+1,x+a1,rfl,by go_num,by omega,by omega,by omega,tr,HN⟩
   grind[intOf]
  ·have qC:¬(k:Int)<(n:Int):=by omega
   obtain rfl:n=k:=by omega
   have hs:=HS.out;have hrow:=hs.len.congr fun j hj=>by rw[if_pos hj]
   have I0:Hid (yg n Mn r n x Mn):=⟨fun _ _=>rfl,fun j _=>by have:=HM j;omega,HX,by rw[HX.out];exact Fc HLT,fun _ j h1 h2=>by omega,fun i k _ _ h=>by omega⟩;have R0:Hid (cG wr lb 0 n Mn/\Below w.heap.size w wr):=⟨hrow,hs.bel⟩;clear hs hrow HX HS;go_wp2;go_loopw[6,8] (fun s i wq=>∃(c:Nat) (x:Int) (g:Nat->Int),s=Iq x/\i=Iq ((c:Int)-1)/\c<=n/\0<=x/\x<=20000000/\Hid (yg n Mn r c x g)/\Hid (cG wq lb 0 n g/\Below w.heap.size w wq)) (fun _ i _=>(intOf i+1).toNat);case atStart=>grind
   case round=>
    obtain⟨c,s,g,rfl,rfl,hc,s0,s1,HI,HR⟩:=hrel;by_cases my:0<c/\r<s
    ·obtain⟨hc0,Il⟩:=my;obtain⟨d,rfl⟩:∃d,c=d+1:=⟨c-1,by omega⟩;have BC:d<n:=by omega
     have BB:((d+1:Nat):Int)-1=(d:Int):=by omega
     rw[BB];have zjd:(d:Int)<(n:Int):=by omega
     have Cq:(0:Int)<=(d:Int):=by omega
     have nj:=(HR.1.2 d BC);rw[bC]at nj;have lz:=HI.bd d BC;have hmm:=HM d;obtain⟨x2,m6⟩:=aj (g d);rw[m6]at nj lz;obtain⟨Sh,fl1⟩:=nj;have b1:=lz.1;have b2:x2<=100000:=by omega
     obtain⟨sr,BH⟩:=aj (s-r);have MI:Hid (∀y,y=min sr x2->yg n Mn r d (s-y) (oH g d (x2-y))/\cG (wr.setCell (az lb d) (Iq (x2-y))) lb 0 n (oH g d (x2-y))/\Below w.heap.size w (wr.setCell (az lb d) (Iq (x2-y)))):=fun y hy=>by have h1:=HI.next BC Il y (by rw[BH,m6];exact hy);rw[m6]at h1;have h2:=HR.1.set d (x2-y) BC;rw[bC]at h2;exact⟨h1,h2,HR.2.setCell Sp _⟩
     clear lz hmm m6 HI HR BB;by_cases yU:x2<sr
     ·have hN:=MI x2 (by omega);have HN1:=qH<|hN.1;have oC:Hid (cG (wr.setCell (az lb d) (Iq 0)) lb 0 n (oH g d (x2-x2))/\Below w.heap.size w (wr.setCell (az lb d) (Iq 0))):=by have:=hN.2;rw[Int.sub_self]at this⊢;exact this
      clear hN MI;go_wp2;grind[intOf]
     ·have hN:=MI sr (by omega);have HN1:=qH<|hN.1;have oC:=qH<|hN.2;clear hN MI;go_wp2;grind[intOf]
    ·have HF:Hid (∃g,cG wr lb 0 n g/\qn n Mn r g):=⟨g,HR.1,HI.back r0 (by omega)⟩;have HB:=qH<|HR.2;clear HI HR;by_cases hc0:0<c
     ·have hle:¬r<s:=by omega
      have SS:(0:Int)<=(c:Int)-1:=by omega
      go_wp2;go_ret;exact⟨rfl,HF,by rw[<-Nk.out];exact HB⟩
     ·have SS:¬(0:Int)<=(c:Int)-1:=by omega
      go_wp2;go_ret;exact⟨rfl,HF,by rw[<-Nk.out];exact HB⟩
theorem uN:(prog.info? 254).map (fun i=>(i.zero,i.size,i.bytes))=some (some (.agg #[Iq 0,Iq 0,Iq 0]),3,24):=by kernel_rfl
theorem Ov(a b c:Nat->Int):lO (fun j=>cl (a j)) (fun j=>dK (a j) (b j)) (fun j=>cl (c j)):=fun j=>
 ⟨(dm _).1,(gE _ _).1,(gE _ _).2,(dm _).1,(dm _).2⟩
theorem sI{w w'}{B n size}{e}{v}{xs}(h:w.ownsRow B e size v n xs)(hb:Bt w w'):w'.ownsRow B e size v n xs:=by
 refine⟨h.1,?_⟩;rcases h.2 with h2|⟨g,al,iT,a,b,c,d⟩;·exact .inl h2
 ·exact .inr ⟨g,al,iT,a,b,by rw[hb.block g (aS.1 c).1];exact c,d⟩
theorem none_of{n}{Mn Mx Wt}{r}{g}(hM:lO Mn Mx Wt)(hsp:ci n Mn Mx Wt r g)(hle:aA Mn (List.range n)<=r)(hbad:uj n Mn Mx Wt r (n+1)):∀j,j<n->g j=if 0<Wt j then Mx j else Mn j:=by
 have hw:=fun j=>(hM j).2.1;have hp:=fun j=>(hM j).2.2.2.1;rcases hsp with⟨h1,_⟩|⟨_,A,S,L,V,m,h⟩;·omega
 ·obtain⟨nA,nS,hd,fA,fS,eI⟩:=h.facts;by_cases hS:S=[];·subst hS;intro j hj;rw[h.is j hj];grind
  ·exfalso;rcases h.cand hw hp hS with h1|⟨i,hi,wi,h1⟩;·exact hbad.1 (by omega) h1
   ·exact hbad.2 i (by omega) wi h1
structure Qc(w wr:World)(lw ob n k:Nat)(mn mx wt g:Nat->Int):Prop where
 len:cG wr ob 0 n (fun j=>if j<k then g j else 0)
 want:eD wr lw 0 n mn mx wt
 bel:Bt w wr
theorem tf{g:Nat->Int}{k}  v  (hv:v=g k):∀j,oH (fun j=>if j<k then g j else 0) k v j=if j<k+1 then g j else 0:=fun j=>by grind[oH]
theorem PV  g   k   x v  :oH (oH g k x) k v=oH g k v:=by grind[oH]
theorem Qc.set{w wr}{lw ob n k}{mn mx wt g}(h:Qc w wr lw ob n k mn mx wt g)(hk:k<n)(bG:ob≠lw)(hB:w.heap.size<=ob)  v  (hv:v=g k):Qc w (wr.setCell (az ob k) (Iq v)) lw ob n (k+1) mn mx wt g:=by have h1:=h.len.set k v hk;rw[bC]at h1;exact⟨h1.congr fun j _=>tf v hv j,h.want.other _ _ _ bG,h.bel.setCell hB _⟩
theorem Qc.set2{w wr}{lw ob n k}{mn mx wt g}(h:Qc w wr lw ob n k mn mx wt g)(hk:k<n)(bG:ob≠lw)(hB:w.heap.size<=ob)  x v  (hv:v=g k):Qc w ((wr.setCell (az ob k) (Iq x)).setCell (az ob k) (Iq v)) lw ob n (k+1) mn mx wt g:=by have h1:=(h.len.set k x hk).set k v hk;rw[bC,PV]at h1;exact⟨h1.congr fun j _=>tf v hv j,(h.want.other _ _ _ bG).other _ _ _ bG,(h.bel.setCell hB _).setCell hB _⟩
structure Ny(w wr:World)(lw ob rb n k:Nat)(mn mx wt base rest:Nat->Int):Prop where
 len:cG wr ob 0 n (fun j=>if j<k then base j else 0)
 res:cG wr rb 0 n (fun j=>if j<k then rest j else 0)
 want:eD wr lw 0 n mn mx wt
 bel:Bt w wr
theorem Ny.below{w W W'}{lw ob rb n k}{mn mx wt base rest}(h:Ny w W lw ob rb n k mn mx wt base rest)(hb:Bt W W'):Ny w W' lw ob rb n k mn mx wt base rest:=
 ⟨h.len.below hb,h.res.below hb,h.want.below hb,h.bel.trans (hb.mono h.bel.size)⟩
theorem Ny.set{w wr}{lw ob rb n k}{mn mx wt base rest}(h:Ny w wr lw ob rb n k mn mx wt base rest)(hk:k<n)(h1:lw<ob)(h2:ob<rb)(hB:w.heap.size<=ob)  x y  (hx:x=base k) (hy:y=rest k):Ny w ((wr.setCell (az ob k) (Iq x)).setCell (az rb k) (Iq y)) lw ob rb n (k+1) mn mx wt base rest:=by have a1:=(h.len.set k x hk);have a2:=((h.res.other ob k (Iq x) (by omega)).set k y hk);rw[bC]at a1 a2;exact⟨(a1.other _ _ _ (by omega)).congr fun j _=>tf x hx j,a2.congr fun j _=>tf y hy j,(h.want.other _ _ _ (by omega)).other _ _ _ (by omega),(h.bel.setCell hB _).setCell (by grind) _⟩
structure NF(w wr:World)(ob rb n:Nat)(base rest:Nat->Int)(S:List Nat)(t:Nat):Prop where
 len:cG wr ob 0 n (fun j=>base j+(if j∈S.take t then 1 else 0))
 res:cG wr rb 0 n (fun j=>if j∈S.take t then-1 else rest j)
 bel:Bt w wr
theorem NF.below{w W W'}{ob rb n}{base rest}{S}{t}(h:NF w W ob rb n base rest S t)(hb:Bt W W'):NF w W' ob rb n base rest S t:=
 ⟨h.len.below hb,h.res.below hb,h.bel.trans (hb.mono h.bel.size)⟩
theorem NF.next{w wr}{ob rb n}{base rest}{S}{t}(h:NF w wr ob rb n base rest S t)(hS:S.Nodup)(ht:t<S.length)  i  (hi:S[t]?.getD 0=i) (iV:i<n) (h2:ob<rb) (hB:w.heap.size<=ob):
 NF w ((wr.setCell (az ob i) (Iq (base i+1))).setCell (az rb i) (Iq (-1))) ob rb n base rest S (t+1):=by
 have Q_:=eU S t ht;have QX:=fL hS ht;rw[hi]at Q_ QX;have hm:∀j,j∈S.take (t+1)↔j∈S.take t\/j=i:=fun j=>by rw[Q_];simp
 have a1:=(h.len.set i (base i+1) iV);have a2:=((h.res.other ob i (Iq (base i+1)) (by omega)).set i (-1) iV);rw[bC]at a1 a2;refine⟨(a1.other _ _ _ (by omega)).congr fun j _=>?_,a2.congr fun j _=>?_,(h.bel.setCell hB _).setCell (by grind) _⟩;all_goals grind[oH]
theorem Jl  f  :m7 1 f 0:=⟨by omega,fun j hj=>by grind,fun j hj=>by omega⟩
theorem best_up{f}{i b}(h:m7 i f b)(c:f b<f i):m7 (i+1) f i:=
 ⟨by omega,fun j hj=>by
  by_cases e:j=i;·rw[e];exact jL _
  ·have:=h.top j (by omega);omega,fun j hj=>by have:=h.top j hj;omega⟩
theorem best_stay{f}{i b}(h:m7 i f b)(c:¬f b<f i):m7 (i+1) f b:=
 ⟨by have:=h.lt;omega,fun j hj=>by
  by_cases e:j=i;·rw[e];omega
  ·exact h.top j (by omega),h.first⟩
theorem kW(n blk off al:Nat)(a b c:Nat->Int)(aD bM:Int)(w:World)(h:eD w blk off n a b c)(y_:0<n)(hn:n<=200)(g:Nat->Int)(hsp:ci n (fun j=>cl (a j)) (fun j=>dK (a j) (b j)) (fun j=>cl (c j)) (rm aD bM n) g):
 Cw 113 #[Iq aD,Iq bM,.slice (some (az blk off)) n al] w fun e w'=>∃ob,e=Rw (Sq ob n n)/\w.heap.size<=ob/\cG w' ob 0 n g/\Bt w w':=by
 obtain⟨i0,hi,eK,fZ,iD⟩:=info_parts uN;have HW:=qH<|h;have C3:=qH<|rHeld_any;have CR:=qH<|fun w=>Hb aD bM n y_ hn w;obtain⟨r,hr⟩:=aj (rm aD bM n);have zh:=vd aD bM n;have hr1:=Lr aD bM n y_;rw[hr]at CR zh hr1 hsp;obtain⟨mn,yZ⟩:∃f:Nat->Int,(fun j=>cl (a j))=f:=⟨_,rfl⟩;obtain⟨mx,mY⟩:∃f:Nat->Int,(fun j=>dK (a j) (b j))=f:=⟨_,rfl⟩;obtain⟨wt,Vi⟩:∃f:Nat->Int,(fun j=>cl (c j))=f:=⟨_,rfl⟩;have hM:=Ov a b c;have Hmn:Hid (∀j,cl (a j)=mn j):=fun j=>by rw[<-yZ]
 have Hmx:Hid (∀j,dK (a j) (b j)=mx j):=fun j=>by rw[<-mY]
 have Hwt:Hid (∀j,cl (c j)=wt j):=fun j=>by rw[<-Vi]
 rw[yZ,mY,Vi]at hsp hM;have HM:=qH<|hM;have yb:=qH<|hsp;go_enter func113,ntmps113;go_wp2;go_loopw[7,8,9] (fun v s i wr=>∃(k:Nat) (x:Int),s=Iq x/\i=Iq k/\k<=n/\0<=x/\x<=(k:Int)*100000/\Hid (x=aA mn (List.range k))/\wr.ownsRow w.heap.size 254 3 v k (eX mn mx wt k)/\Bt w wr) (fun _ _ i _=>n-(intOf i).toNat);case atStart=>exact⟨0,0,rfl,rfl,bc _,by omega,by omega,rfl,gM _ _ _ _,ag _ _⟩
 case round=>
  obtain⟨k,x,rfl,rfl,hk,x0,x1,HX,bi,hbw⟩:=hrel;by_cases hlt:k<n
  ·have aK:(k:Int)<(n:Int):=by omega
   have eu:=HW.below hbw;obtain⟨c0,c1,c2⟩:=eu.2 k hlt;have hm:=HM k;have e1:=Hmn k;have e2:=Hmx k;have e3:=Hwt k;obtain⟨a1,ha1⟩:=aj (a k);obtain⟨a2,ha2⟩:=aj (b k);obtain⟨a3,ha3⟩:=aj (c k);obtain⟨m1,kI⟩:=aj (mn k);obtain⟨m2,hm2⟩:=aj (mx k);obtain⟨m3,Gp⟩:=aj (wt k);rw[ha1]at c0;rw[ha2]at c1;rw[ha3]at c2;rw[ha1,kI]at e1;rw[ha1,ha2,hm2]at e2;rw[ha3,Gp]at e3;rw[kI,hm2,Gp]at hm;obtain⟨d1,d2,d3,d4,d5⟩:=hm;have CH:=qH<|fun w=>by have:=C3 a1 a2 a3 w;rw[e1,e2,e3]at this;exact this
   have HS:Hid (eX mn mx wt (k+1)=eX mn mx wt k++[Iq m1,Iq m2,Iq m3]):=by show _=_;rw[eX,kI,hm2,Gp]
   have tr:Hid (x+m1=aA mn (List.range (k+1))):=by show _=_;rw[ka,dj,<-HX.out,kI]
   have hzr:=hbw.size;go_wp2_with fail;refine(CH _).mono ?_;rintro e w5 ⟨rfl,b5⟩;have oP:=hbw.trans (b5.mono hzr);have ze:=sI bi b5;have hz5:=b5.size;go_wp2_with(at_builtin;refine wpList_append_own _ rfl _ _ 197 rfl w.heap.size 254 i0 (.agg #[Iq 0,Iq 0,Iq 0]) 3 24 underlying197 hi eK fZ iD rfl (by decide) _ _ _ rfl ((ze.alloc _).alloc _) _ 1 1 [Iq m1,Iq m2,Iq m3] rfl rfl ?c1 ?c2 ?c3 ?c4 ?c5 ?_);case c1=>intro j u hj;have:=rJ (w5.alloc (.cells #[Iq m1,Iq m2,Iq m3] 254)) (Iq m1) (Iq m2) (Iq m3) 254 j u hj;simp_all
   case c2=>intro u hu;simp at hu;rcases hu with rfl|rfl|rfl<;>rfl
   case c3=>unfold maxLen;omega
   case c4=>omega
   case c5=>simp;omega
   intro v' w6 bK hg _;have hrow:=fun q hq=>ze.lt q hq;have Co:=((oP.alloc (by omega) _).alloc (by simp;omega) _).grown hg (by simp;omega) (fun q hq=>(hrow q hq).1);have cx:w6.cell? (az w5.heap.size 0)=some (Iq m1):=by refine hg.cell ?_ (fun e=>by have:w.heap.size<=w5.heap.size/\w5.heap.size<w5.heap.size:=hrow _ e.symm;omega);rw[World.cell?_alloc_past _ _ _ (by simp),World.cell?_alloc_at _ _ _ _ rfl];rfl
   go_wp2;go_roundw;case rel=>exact⟨k+1,x+m1,rfl,by go_num,by omega,by omega,by omega,tr,by rw[HS.out];exact bK,Co⟩
   grind[intOf]
  ·have qC:¬(k:Int)<(n:Int):=by omega
   obtain rfl:n=k:=by omega
   obtain⟨p,cp,rfl,ny⟩:=Ba bi;obtain⟨lw,rfl,zjG,hlw⟩:=ny.resolve_left (by omega);have HLW:=qH<|hlw;have HBW:=qH<|hbw;have OZ:=hlw.1;have hzr:=hbw.size;obtain⟨w3,rfl⟩:=N7 wr;by_cases Kk:r<x
   ·have CS:=qH<|rShrunk_any n lw cp mn mx wt r w3 HLW hn HM ⟨zh,hr1⟩ (by rw[<-HX.out];exact Kk);have HBk:Hid (qn n mn r g):=by
     rcases yb.out with⟨_,hb⟩|⟨h1,_⟩;·exact hb
     ·rw[<-HX.out]at h1;omega
    go_wp2_with(first|(go_at_call 156;refine(CR _).mono ?_;rintro e w5 ⟨rfl,tB⟩;obtain rfl:=tB.symm)|(go_at_call 157;fail));refine CS.mono ?_;rintro e w2 ⟨rfl,⟨g2,hf,QN⟩,hb⟩;have HF:=qH<|hf.congr (QN.uniq HBk);have HB2:=qH<|HBW.trans (hb.mono hzr);go_wp2;go_ret;exact⟨_,rfl,hzr,HF,HB2⟩
   ·have hle:aA mn (List.range n)<=r:=by rw[<-HX.out];omega
    have VJ:=qH<|hle;have CP:=qH<|fun w h=>Ac n lw 0 cp mn mx wt r w h hn HM ⟨zh,hr1⟩;have gR:=run_make_row' (P:=prog) 98 3 (Iq 0) 8 underlying98 gI rfl .i64 .i64 n (by omega) (by omega);obtain⟨ob,xP⟩:=aj w3.heap.size;obtain⟨w4,Im⟩:=aj (w3.alloc (.cells (madeCells #[Iq 0] n) 3));have Ih:Bt w3 w4:=by rw[<-Im];exact(ag _ _).alloc (ai _) _
    have ZZ:w4.heap.size=ob+1:=by rw[<-Im,<-xP];simp
    have HR4:Hid (cG w4 ob 0 n (fun _=>0)):=by
     rw[<-Im];refine⟨by simp;omega,fun j hj=>⟨?_,?_⟩⟩;·rw[World.cell?_alloc_at _ _ _ _ xP.symm];simp[madeCells,hj,vI]
     ·rw[World.frozen?_alloc_at _ _ _ _ xP.symm]
    have HLW4:=qH<|HLW.below Ih;have HBW4:=qH<|HBW.trans (Ih.mono hzr);have CP4:=qH<|CP w4 HLW4;go_wp2_with(first|(go_at_call 156;refine(CR _).mono ?_;rintro e w5 ⟨rfl,tB⟩;obtain rfl:=tB.symm)|(go_at_call 158;fail));refine CP4.mono ?_;rintro e w5 ⟨p,q,rfl,ZT,qY⟩;have xI:=qH<|HR4.below qY;have Nn:=qH<|HLW4.below qY;have Iy:=qH<|HBW4.trans (qY.mono (by omega));have Z0:=qY.size;have Gw:w.heap.size<=ob:=by omega
    have zcm:lw<ob:=by omega
    have zj1:ob<w5.heap.size:=by omega
    clear qY Ih Im xP ZZ CP CP4 HR4 HLW4 HBW4 HLW HBW;rcases ZT with⟨rfl,rfl,hbad⟩|⟨Ti,tR,EE,Gx,X0⟩
    ·have HG:=qH<|none_of HM yb VJ hbad;clear hbad;have G0:Hid (Qc w w5 lw ob n 0 mn mx wt g):=⟨xI.congr fun j _=>by simp,Nn,Iy⟩;clear xI Nn Iy;go_wp2;go_loopw[15] (fun i wr=>∃k:Nat,i=Iq k/\k<=n/\Hid (Qc w wr lw ob n k mn mx wt g)) (fun i _=>n-(intOf i).toNat);case atStart=>grind
     case round=>
      obtain⟨k,rfl,hk,HGS⟩:=hrel;by_cases hlt:k<n
      ·have aK:(k:Int)<(n:Int):=by omega
       have hs:=HGS.out;obtain⟨f0,f1,f2⟩:=hs.want.2 k hlt;have Cu:=HG k hlt;obtain⟨m1,kI⟩:=aj (mn k);obtain⟨m2,hm2⟩:=aj (mx k);obtain⟨m3,Gp⟩:=aj (wt k);rw[kI,bC]at f0;rw[hm2,bC]at f1;rw[Gp,bC]at f2;rw[kI,hm2,Gp]at Cu;have hzw:=hs.want.1;have Re:=hs.len.1;have Sh:wr.cell? (az ob k)=some (Iq 0):=by have:=(hs.len.2 k hlt).1;dsimp only at this;rw[if_neg (by omega),bC]at this;exact this
       have fl1:wr.frozen? (az ob k)=false:=by have:=(hs.len.2 k hlt).2;rw[bC]at this;exact this
       by_cases dL:0<m3
       ·rw[if_pos dL]at Cu;have HN:=qH<|hs.set2 hlt (by omega) Gw m1 m2 Cu.symm;clear hs Cu kI hm2 Gp HGS;go_wp2;go_roundw;case rel=>exact⟨k+1,by go_num,by omega,HN⟩
        case measure=>simp[intOf];omega
       ·rw[if_neg dL]at Cu;have HN:=qH<|hs.set hlt (by omega) Gw m1 Cu.symm;clear hs Cu kI hm2 Gp HGS;go_wp2;go_roundw;case rel=>exact⟨k+1,by go_num,by omega,HN⟩
        case measure=>simp[intOf];omega
      ·have qC:¬(k:Int)<(n:Int):=by omega
       obtain rfl:n=k:=by omega
       have HF:=qH<|HGS.len.congr fun j hj=>by rw[if_pos hj]
       have HB:=qH<|HGS.bel;clear HGS;go_wp2;go_ret;exact⟨_,rfl,Gw,HF,HB⟩
    ·obtain⟨S,m,base,rest,hP⟩:=kV HM yb VJ Ti X0;have HP:=qH<|hP;have _q:Hid (∀j,j<n->0<=base j/\base j<=100000):=fun j hj=>by have hm:=HM j;have h1:=Dd (a:=mn j) (b:=mx j) (c:=wt j) (p:=p) (q:=q) hm.1 (by omega) hm.2.2.1 hm.2.2.2.1 EE (by omega) tR;have h2:=(ra (mn j) (mx j) (wt j) p q).1;rw[<-hP.base_ j hj];refine⟨Bh h1.1 (by omega),?_⟩;have h3:=Int.ediv_le_ediv Ti h2;rw[Fm _ (by omega)]at h3;omega
     have Ut:Hid (∀j,j<n->0<=rest j/\rest j<q):=fun j hj=>by rw[<-hP.rest_ j hj];exact⟨Bg _ (by omega),Ff _ Ti⟩
     have HLv:Hid (∀j,j<n->∀w,Cw 159 #[.agg #[Iq (mn j),Iq (mx j),Iq (wt j)],Iq p,Iq q] w fun e w'=>e=Rw (Iq (fk (mn j) (mx j) (wt j) p q))/\Bt w w'):=fun j hj w=>by have hm:=HM j;exact sL (mn j) (mx j) (wt j) p q w ⟨hm.1,by omega⟩ ⟨by omega,hm.2.2.1⟩ ⟨hm.2.2.2.1,hm.2.2.2.2⟩ ⟨EE,by omega⟩ ⟨by omega,tR⟩
     clear hP X0;have Th:(q==0)=false:=by simp;omega
     have zkd:¬q=0:=by omega
     obtain⟨rb,hrb⟩:=aj w5.heap.size;obtain⟨w6,M9⟩:=aj (w5.alloc (.cells (madeCells #[Iq 0] n) 3));have XO:ob<rb:=by omega
     have H0:Hid (Ny w w6 lw ob rb n 0 mn mx wt base rest):=by
      have oP:Bt w5 w6:=by rw[<-M9];exact(ag _ _).alloc (ai _) _
      refine⟨(xI.below oP).congr fun j _=>by simp,⟨by rw[<-M9];simp;omega,fun j hj=>⟨?_,?_⟩⟩,Nn.below oP,Iy.trans (oP.mono Iy.size)⟩;·rw[<-M9,World.cell?_alloc_at _ _ _ _ hrb.symm];simp[madeCells,hj,vI]
      ·rw[<-M9,World.frozen?_alloc_at _ _ _ _ hrb.symm]
     clear xI Nn Iy;go_wp2;go_loopw[17,18] (fun l i wr=>∃(k:Nat) (x:Int),l=Iq x/\i=Iq k/\k<=n/\-20000000<=x/\x<=100000/\Hid (x=r-aA base (List.range k))/\Hid (Ny w wr lw ob rb n k mn mx wt base rest)) (fun _ i _=>n-(intOf i).toNat);case atStart=>exact⟨0,r,rfl,rfl,bc _,by omega,by omega,by simp[Hid,aA],H0⟩
     case round=>
      obtain⟨k,x,rfl,rfl,hk,xl,xu,HX,Ui⟩:=hrel;by_cases hlt:k<n
      ·have aK:(k:Int)<(n:Int):=by omega
       have hs:=Ui.out;obtain⟨f0,f1,f2⟩:=hs.want.2 k hlt;have CL:=HLv k hlt wr;have qZ:=_q k hlt;have hrr:=Ut k hlt;have eb:=HP.base_ k hlt;have er:=HP.rest_ k hlt;have hm:=HM k;have hlb:=Dd (a:=mn k) (b:=mx k) (c:=wt k) (p:=p) (q:=q) hm.1 (by omega) hm.2.2.1 hm.2.2.2.1 EE (by omega) tR;obtain⟨m1,kI⟩:=aj (mn k);obtain⟨m2,hm2⟩:=aj (mx k);obtain⟨m3,Gp⟩:=aj (wt k);obtain⟨bs,hbs⟩:=aj (base k);obtain⟨rs,Il⟩:=aj (rest k);rw[kI,bC]at f0;rw[hm2,bC]at f1;rw[Gp,bC]at f2;rw[kI,hm2,Gp]at CL eb er hlb;obtain⟨lv,Va⟩:=aj (fk m1 m2 m3 p q);rw[Va]at CL eb er hlb;rw[hbs]at qZ eb;rw[Il]at hrr er;have HCL:Hid _:=CL;have htd:lv.tdiv q=bs:=by rw[vy hlb.1,eb]
       have htm:lv.tmod q=rs:=by rw[Ry hlb.1,er]
       obtain⟨l1,l2⟩:=hlb;obtain⟨b1,b2⟩:=qZ;obtain⟨r1,r2⟩:=hrr;have tr:Hid (x-bs=r-aA base (List.range (k+1))):=by show _=_;rw[ka,dj,HX.out,hbs];omega
       have zkC:-20000000<=x-bs:=by rw[tr.out];have:aA base (List.range (k+1))<=((List.range (k+1)).length:Int)*100000:=eT fun j hj=>(_q j (by have:=vB.1 hj;omega)).2;rw[Fg]at this;omega
       have HN:Hid (∀W',Bt wr W'->Ny w ((W'.setCell (az ob k) (Iq bs)).setCell (az rb k) (Iq rs)) lw ob rb n (k+1) mn mx wt base rest):=fun W' hb=>(hs.below hb).set hlt zcm XO Gw bs rs hbs.symm Il.symm;have Re:=hs.len.1;have Yc:=hs.res.1;have Ww:wr.cell? (az ob k)=some (Iq 0):=by have:=(hs.len.2 k hlt).1;dsimp only at this;rw[if_neg (by omega),bC]at this;exact this
       have WH:wr.frozen? (az ob k)=false:=by have:=(hs.len.2 k hlt).2;rw[bC]at this;exact this
       have cr1:wr.cell? (az rb k)=some (Iq 0):=by have:=(hs.res.2 k hlt).1;dsimp only at this;rw[if_neg (by omega),bC]at this;exact this
       have fr1:wr.frozen? (az rb k)=false:=by have:=(hs.res.2 k hlt).2;rw[bC]at this;exact this
       have hzw:=hs.want.1;clear hs CL hm kI hm2 Gp hbs Il Va HX Ui;go_wp2_with fail;refine am HCL ?_;rintro e w7 ⟨rfl,b7⟩;have co2:=(b7.cell (p:=(az ob k)) Re).trans Ww;have fo2:=(b7.frozen (p:=(az ob k)) Re).trans WH;have cr2:=(b7.cell (p:=(az rb k)) Yc).trans cr1;have fr2:=(b7.frozen (p:=(az rb k)) Yc).trans fr1;have HN7:=HN w7 b7;have _1:Hid _:=HN7;clear b7 HN HN7 HCL Ww WH cr1 fr1;go_wp2;go_roundw;case rel=>exact⟨k+1,x-bs,rfl,by go_num,by omega,by omega,by omega,tr,_1⟩
       case measure=>simp[intOf];omega
      ·have qC:¬(k:Int)<(n:Int):=by omega
       obtain rfl:n=k:=by omega
       have hxm:x=(m:Int):=by rw[HX.out];exact HP.left
       have K0:Hid (NF w wr ob rb n base rest S 0):=⟨Ui.len.congr fun j hj=>by simp[hj],Ui.res.congr fun j hj=>by simp[hj],Ui.bel⟩;clear HX Ui;subst hxm;go_wp2;go_loopw[17] (fun l wr=>∃t:Nat,l=Iq ((m:Int)-t)/\t<=m/\Hid (NF w wr ob rb n base rest S t)) (fun l _=>(intOf l).toNat);case atStart=>exact⟨0,by simp,bc _,K0⟩
       case round=>
        obtain⟨t,rfl,ht,HK⟩:=hrel;by_cases hlt:t<m
        ·have dL:(0:Int)<(m:Int)-t:=by omega
         have Km:=bn hlt HP.le;obtain⟨i,hi⟩:=aj (S[t]?.getD 0);have iV:=HP.lt i (by rw[<-hi];exact qR Km);have hbest:=HP.best t hlt;rw[hi]at hbest;obtain⟨f,hf⟩:∃f:Nat->Int,(fun j=>if j∈S.take t then-1 else rest j)=f:=⟨_,rfl⟩;rw[hf]at hbest;have Vz:=qH<|hbest;have hres:cG wr rb 0 n f:=by have:=HK.res;rw[hf]at this;exact this
         have VU:=qH<|hres;have zkF:=hres.1;have _P:Hid (∀W',Bt wr W'->NF w ((W'.setCell (az ob i) (Iq (base i+1))).setCell (az rb i) (Iq (-1))) ob rb n base rest S (t+1)):=fun W' hb=>(HK.below hb).next HP.nodup Km i hi iV XO Gw;have oX:i∉S.take t:=by rw[<-hi];exact fL HP.nodup Km
         have ZF:=HK.len.2 i iV;dsimp only at ZF;rw[if_neg oX,bC,Fk]at ZF;have Re:=HK.len.1;have qZ:=_q i iV;obtain⟨bs,hbs⟩:=aj (base i);rw[hbs]at ZF qZ _P;obtain⟨Ww,WH⟩:=ZF;obtain⟨b1,b2⟩:=qZ;have Xy:(i:Int)<(n:Int):=by omega
         have zfA:¬(m:Int)<=t:=by omega
         clear hbest hf hres oX hbs HK;obtain⟨w8,rfl⟩:=N7 wr;go_wp2;go_loopw[20,21] (fun b j wq=>∃bb ii:Nat,b=Iq bb/\j=Iq ii/\1<=ii/\ii<=n/\bb<n/\Hid (m7 ii f bb)/\Bt w8 wq) (fun _ j _=>n-(intOf j).toNat);case atStart=>exact⟨0,1,rfl,rfl,by omega,by omega,by omega,Jl f,ag _ _⟩
         case round=>
          obtain⟨bb,ii,rfl,rfl,BD,nt,Bz,Iz,Ew⟩:=hrel;by_cases qD:ii<n
          ·have hl1:(ii:Int)<(n:Int):=by omega
           have uK:(bb:Int)<(n:Int):=by omega
           have Q8:=VU.below Ew;have cA:=(Q8.2 ii qD).1;have cB:=(Q8.2 bb Bz).1;rw[bC]at cA cB;obtain⟨fa,QR⟩:=aj (f ii);obtain⟨fb,oS⟩:=aj (f bb);rw[QR]at cA;rw[oS]at cB;have hzq:=Q8.1;by_cases yU:fb<fa
           ·have HB2:=qH<|best_up Iz (by rw[QR,oS];exact yU);clear Q8 QR oS Iz;go_wp2_with fail;go_quiet(fail);go_wp2;go_roundw;case rel=>exact⟨ii,ii+1,rfl,by go_num,by omega,by omega,by omega,HB2,below_drewN Ew _⟩
            case measure=>simp[intOf];omega
           ·have HB2:=qH<|best_stay Iz (by rw[QR,oS];exact yU);clear Q8 QR oS Iz;go_wp2_with fail;go_quiet(fail);go_wp2;go_roundw;case rel=>exact⟨bb,ii+1,rfl,by go_num,by omega,by omega,by omega,HB2,below_drewN Ew _⟩
            case measure=>simp[intOf];omega
          ·have hl1:¬(ii:Int)<(n:Int):=by omega
           have U7:ii=n:=by omega
           have hbi:bb=i:=by have h1:=Iz.out;rw[U7]at h1;exact h1.uniq Vz
           subst hbi;have co2:=(Ew.cell (p:=(az ob bb)) Re).trans Ww;have fo2:=(Ew.frozen (p:=(az ob bb)) Re).trans WH;have Q8:=VU.below Ew;have tv:=Q8.2 bb iV;rw[bC]at tv;obtain⟨fa,QR⟩:=aj (f bb);rw[QR]at tv;obtain⟨cr2,fr2⟩:=tv;have HN:Hid _:=_P wr Ew;clear Q8 QR Iz U7 Ww WH Ew _P;go_wp2;go_roundw;case rel=>exact⟨t+1,by go_num,by omega,HN⟩
           case measure=>simp[intOf];omega
        ·obtain rfl:m=t:=by omega
         have eK:¬(0:Int)<(m:Int)-m:=by omega
         have HF:=qH<|HK.len.congr fun j hj=>(HP.is j hj).symm;have HB:=qH<|HK.bel;clear HK;go_wp2;go_ret;exact⟨_,rfl,Gw,HF,HB⟩
theorem rOpen_nil(p q:Int)(w:World):
 Cw 188 #[.slice none 0 0,Iq p,Iq q] w fun e w'=>e=Rw (.tuple #[Iq 0,Iq 0])/\w'=w:=by
 go_enter func188,ntmps188;go_wp2;go_loop[8,9,10] (fun s t i=>s=Iq 0/\t=Iq 0/\i=Iq 0) (fun _ _ _=>0);case atStart=>grind
 case round=>obtain⟨rfl,rfl,rfl⟩:=hrel;go_wp2;go_ret2;simp_all
theorem rPoured_nil(r:Int)(w:World):
 Cw 158 #[.slice none 0 0,Iq r] w fun e w'=>e=Rw (.tuple #[Iq 0,Iq 0])/\w'=w:=by
 have CO:=qH<|rOpen_nil 0 1;go_enter func158,ntmps158;go_wp2;go_loop[6] (fun i=>i=Iq (-1)\/i=Iq 0) (fun i=>(0-intOf i).toNat);case atStart=>grind
 case round=>
  rcases hrel with rfl|rfl;·go_wp2_with(go_at_call 188;refine(CO _).mono ?_;rintro e w5 ⟨rfl,tB⟩;obtain rfl:=tB.symm);simp_all[intOf]
  ·go_wp2;go_ret2;simp_all
theorem kX(p:Option Addr)(al:Nat)(aD bM:Int)(w:World):
 Cw 113 #[Iq aD,Iq bM,.slice p 0 al] w fun e w'=>∃q,e=Rw (.slice q 0 0)/\Bt w w':=by
 have CR:Hid (∀w,Cw 156 #[Iq aD,Iq bM,Iq 0] w fun e w'=>e=Rw (Iq (cl aD))/\w'=w):=fun w=>vc aD bM 0 (by omega) w;obtain⟨cr,tv⟩:=aj (cl aD);have b:=dm aD;rw[tv]at CR b;have b1:=b.1;have b2:¬cr<0:=by omega
 clear tv b;have CP:=qH<|rPoured_nil cr;have gR:∀u:World,(Instr.makeSlice 98 (Iq 0) (Iq 0)).run prog u=.ok (Sq u.heap.size 0 0) (u.alloc (.cells (madeCells #[Iq 0] 0) 3)):=fun u=>run_make_row' (P:=prog) 98 3 (Iq 0) 8 underlying98 gI rfl .i64 .i64 0 (by omega) (by omega) u;go_enter func113,ntmps113;go_wp2;go_loop[7,8,9] (fun v s i=>v=.slice none 0 0/\s=Iq 0/\i=Iq 0) (fun _ _ _=>0);case atStart=>grind
 case round=>
  obtain⟨rfl,rfl,rfl⟩:=hrel;go_wp2_with(first|(go_at_call 156;refine(CR _).mono ?_;rintro e w5 ⟨rfl,tB⟩;obtain rfl:=tB.symm)|(go_at_call 158;refine(CP _).mono ?_;rintro e w5 ⟨rfl,tB⟩;obtain rfl:=tB.symm));go_loop[15] (fun i=>i=Iq 0) (fun _=>0);case atStart=>exact rfl
  case round=>obtain rfl:=hrel;go_wp2;go_ret;exact⟨⟨_,rfl⟩,(ag _ _).alloc (ai _) _⟩
structure NH(w wr:World)(lb ob n k:Nat)(g:Nat->Int)(cg:Int):Prop where
 len:cG wr lb 0 n g
 out:cG wr ob 0 n (fun j=>if j<k then cm g cg j else 0)
 bel:Bt w wr
theorem NH.below{w W W'}{lb ob n k}{g}{cg}(h:NH w W lb ob n k g cg)(hb:Bt W W'):NH w W' lb ob n k g cg:=⟨h.len.below hb,h.out.below hb,h.bel.trans (hb.mono h.bel.size)⟩
theorem NH.set{w wr}{lb ob n k}{g}{cg}(h:NH w wr lb ob n k g cg)(hk:k<n)(bG:lb<ob)(hB:w.heap.size<=ob):NH w (wr.setCell (az ob k) (Iq (cm g cg k))) lb ob n (k+1) g cg:=by have h1:=h.out.set k (cm g cg k) hk;rw[bC]at h1;exact⟨h.len.other _ _ _ (by omega),h1.congr fun j _=>tf (g:=fun j=>cm g cg j) _ rfl j,h.bel.setCell hB _⟩
theorem G_(v:Value)(aD bM:Int)(w:World)(p:Option Addr)(C:Cw 113 #[Iq aD,Iq bM,v] w fun e w'=>∃q,e=Rw (.slice q 0 0)/\Bt w w'):
 Cw 115 #[Iq aD,Iq bM,v] w fun e w'=>∃q,e=Rw (.slice q 0 0)/\Bt w w':=by
 have HC:Hid (Cw 113 #[Iq aD,Iq bM,v] w fun e w'=>∃q,e=Rw (.slice q 0 0)/\Bt w w'):=C;have gR:∀u:World,(Instr.makeSlice 98 (Iq 0) (Iq 0)).run prog u=.ok (Sq u.heap.size 0 0) (u.alloc (.cells (madeCells #[Iq 0] 0) 3)):=fun u=>run_make_row' (P:=prog) 98 3 (Iq 0) 8 underlying98 gI rfl .i64 .i64 0 (by omega) (by omega) u;clear C;go_enter func115,ntmps115;go_wp2_with fail;refine HC.out.mono ?_;rintro e w1 ⟨q,rfl,b1⟩;have HB:Hid (Bt w (w1.alloc (.cells (madeCells #[Iq 0] 0) 3))):=b1.alloc b1.size _;clear b1;go_wp2;go_loop[9,10] (fun s i=>s=Iq 0/\i=Iq 0) (fun _ _=>0);case atStart=>grind
 case round=>obtain⟨rfl,rfl⟩:=hrel;go_wp2;go_ret;exact⟨⟨_,rfl⟩,HB.out⟩
theorem G9(n blk off al:Nat)(a b c:Nat->Int)(aD bM:Int)(w:World)(h:eD w blk off n a b c)(y_:0<n)(hn:n<=200)(g:Nat->Int)(hsp:ci n (fun j=>cl (a j)) (fun j=>dK (a j) (b j)) (fun j=>cl (c j)) (rm aD bM n) g):
 Cw 115 #[Iq aD,Iq bM,.slice (some (az blk off)) n al] w fun e w'=>∃ob,e=Rw (Sq ob n n)/\w.heap.size<=ob/\cG w' ob 0 n (cm g (cl bM))/\Bt w w':=by
 have CS:Hid (Cw 113 #[Iq aD,Iq bM,.slice (some (az blk off)) n al] w fun e w'=>∃ob,e=Rw (Sq ob n n)/\w.heap.size<=ob/\cG w' ob 0 n g/\Bt w w'):=kW n blk off al a b c aD bM w h y_ hn g hsp;have CC:Hid (∀w,Cw 162 #[Iq bM] w fun e w'=>e=Rw (Iq (cl bM))/\w'=w):=fun w=>rCl_any bM w;have lz:∀j,j<n->0<=g j/\g j<=100000:=fun j hj=>by have h1:=(hsp.tiles (fY a b c)).1 j hj;have h2:=fY a b c j;omega
 have uH:=dm bM;obtain⟨cg,Ge⟩:=aj (cl bM);rw[Ge]at CC uH⊢;have cg0:=uH.1;have cg1:=uH.2;have YM:Hid (∀j,j<n->0<=g j/\g j<=100000):=lz;have RV:Hid (∀k,k<=n->0<=cm g cg k/\cm g cg k<=(k:Int)*200000):=fun k hk=>lG lz ⟨cg0,cg1⟩ k hk;have gR:=run_make_row' (P:=prog) 98 3 (Iq 0) 8 underlying98 gI rfl .i64 .i64 n (by omega) (by omega);clear h hsp lz Ge uH;go_enter func115,ntmps115;go_wp2_with fail;refine CS.out.mono ?_;rintro e w1 ⟨lb,rfl,hlb,hrow,hb1⟩;have OZ:=hrow.1;have fZ:=hb1.size;obtain⟨ob,xP⟩:=aj w1.heap.size;obtain⟨w2,xR⟩:=aj (w1.alloc (.cells (madeCells #[Iq 0] n) 3));have O0:Hid (NH w w2 lb ob n 0 g cg):=by
  have b2:Bt w1 w2:=by rw[<-xR];exact(ag _ _).alloc (ai _) _
  refine⟨hrow.below b2,⟨by rw[<-xR];simp;omega,fun j hj=>⟨?_,?_⟩⟩,hb1.trans (b2.mono fZ)⟩;·rw[<-xR,World.cell?_alloc_at _ _ _ _ xP.symm];simp[madeCells,hj,vI]
  ·rw[<-xR,World.frozen?_alloc_at _ _ _ _ xP.symm]
 have mX:lb<ob:=by omega
 have hBo:w.heap.size<=ob:=by omega
 clear hrow hb1 CS;go_wp2;go_loopw[9,10] (fun s i wr=>∃k:Nat,s=Iq (cm g cg k)/\i=Iq k/\k<=n/\Hid (NH w wr lb ob n k g cg)) (fun _ i _=>n-(intOf i).toNat);case atStart=>exact⟨0,rfl,rfl,bc _,O0.out⟩
 case round=>
  obtain⟨k,rfl,rfl,hk,HO⟩:=hrel;by_cases hlt:k<n
  ·have aK:(k:Int)<(n:Int):=by omega
   have hs:=HO.out;have hc:=(hs.len.2 k hlt).1;have hd:=hs.out.2 k hlt;dsimp only at hd;rw[if_neg (by omega),bC]at hd;rw[bC]at hc;have Cu:=YM.out k hlt;have Te:=RV.out k hk;have zb:=lH g cg k;have HN:Hid (NH w (wr.setCell (az ob k) (Iq (cm g cg k))) lb ob n (k+1) g cg):=hs.set hlt mX hBo;obtain⟨gk,wO⟩:=aj (g k);rw[wO]at hc Cu zb;obtain⟨o1,Kg⟩:=aj (cm g cg k);rw[Kg]at Te zb HN⊢;have HNX:Hid (cm g cg (k+1)=o1+gk+cg):=by show _=_;rw[zb];omega
   obtain⟨d1,d2⟩:=hd;obtain⟨gk0,gk1⟩:=Cu;obtain⟨o10,o11⟩:=Te;have hzb:=hs.len.1;have Re:=hs.out.1;have wv1:IntKind.i64.wrap (o1+gk)=o1+gk:=IntWalk.i64_in _ ⟨by omega,by omega⟩;have wv2:IntKind.i64.wrap (o1+gk+cg)=o1+gk+cg:=IntWalk.i64_in _ ⟨by omega,by omega⟩;clear hs wO Kg zb HO;go_wp2_with fail;go_quiet(first|(go_at_call 162;exact Calls.quiet_of_same (CC.out _)));go_wp2;go_roundw;case rel=>exact⟨k+1,by rw[HNX.out],by go_num,by omega,HN.out.below (below_drewN (ag _ _) _)⟩
   grind[intOf]
  ·have qC:¬(k:Int)<(n:Int):=by omega
   obtain rfl:n=k:=by omega
   have HF:Hid (cG wr ob 0 n (cm g cg)):=HO.out.out.congr fun j hj=>by rw[if_pos hj]
   have HB:Hid (Bt w wr):=HO.out.bel;clear HO;go_wp2;go_ret;exact⟨_,rfl,hBo,HF.out,HB.out⟩
