import Derived.Shelf.SortM.Plain
import Derived.Shelf.SortM.SortNone
import Derived.Test.YtaanagpadfcmlaaGreatDoorQ12
set_option linter.all false
set_option maxRecDepth 100000
set_option maxHeartbeats 16000000
namespace Go.Proofs.YtaanagpadfcmlaaGreatDoor
end Go.Proofs.YtaanagpadfcmlaaGreatDoor
namespace Go.Proofs
open Go.Shelf
shelf_lay_g SlLaysM.n5 Slgm 5 at Tryz 253 as Tryz.sortLaid
end Go.Proofs
namespace Go.Proofs.YtaanagpadfcmlaaGreatDoor
section
open Go.RowKit Go.Sort Go.Proofs.Tryz
theorem qN{w:World}{g n off}{os}d:w.grownBy (grow (putRow (Value.int .i64) (Sort.ahead w n) g off d) os) (some g):=by refine⟨rfl,rfl,rfl,rn,λk b a=>?_⟩;rw[heap_grow_old _ _ (by simpa using b)];have:g≠k:=λe=>a (by rw[e]);simp[putRow,mapBlock,Sort.ahead,Array.getElem?_modify,this]
theorem rT b a off d n w(h:aV w a off b)(v:b.length=n)(r:n<=1099511627776):
 Cw 253 #[.slice (some (aj a off)) n d] w λe w'=>e=Rw (.tuple #[])/\aV w' a off (b.mergeSort λx y=>decide (x<=y))/\w.grownBy w' (some a):=by
 subst v;have o:Holds (Value.int .i64) w a off b.toArray:=λj m=>by
  have f:j<b.length:=by simpa using m
  refine⟨?_,(h.2 j f).2⟩;rw[(h.2 j f).1];grind
 refine(AnyM.slices_Sort_int Tryz.sortLaid a off d b w o h.1 dg).mono ?_;rintro e w' ⟨s,q,os,rfl⟩;refine⟨s,?_,qN _⟩;obtain⟨c,g⟩:=ad (b.mergeSort λx y=>decide (x<=y));have u:c.length=b.length:=by rw[<-g];exact(List.mergeSort_perm _ _).length_eq
 rw[g];have h1:Holds (Value.int .i64) (putRow (Value.int .i64) (Sort.ahead w q) a off c.toArray) a off c.toArray:=holds_putRow _ _ _ _ b.toArray _ o dg;have l:a<(putRow (Value.int .i64) (Sort.ahead w q) a off c.toArray).heap.size:=by simpa using h.1
 have i:Below (putRow (Value.int .i64) (Sort.ahead w q) a off c.toArray).heap.size (putRow (Value.int .i64) (Sort.ahead w q) a off c.toArray) (grow (putRow (Value.int .i64) (Sort.ahead w q) a off c.toArray) os):=
  ⟨rfl,rfl,rfl,rn,λk t=>heap_grow_old _ _ t⟩;refine⟨zz007 l i.size,λj m=>?_⟩;have:=h1 j dg;refine⟨(i.cell (p:=(aj a (off+j))) l).trans (this.1.trans ?_),(i.frozen (p:=(aj a (off+j))) l).trans this.2⟩;simp[m]
def cG(W:World)(blk off n:Nat)(g:Nat->Int):Prop:=blk<W.heap.size/\∀j,j<n->W.cell? (aj blk (off+j))=some (Iq (g j))/\W.frozen? (aj blk (off+j))=false
def nQ(g:Nat->Int)(i:Nat)(y:Int):Nat->Int:=λk=>if k=i then y else g k
theorem cG.set{W}{a off n}{g}(h:cG W a off n g)i y(hi:i<n):cG (W.setCell (aj a (off+i)) (Iq y)) a off n (nQ g i y):=by
 refine⟨by simpa using h.1,λk b=>?_⟩;simp only[fI];refine⟨?_,(h.2 k b).2⟩;rw[vH _ _ _ _ _ ⟨_,(h.2 i hi).1⟩];unfold nQ;by_cases e:k=i;·grind
 ·rw[if_neg e,if_neg dg];exact(h.2 k b).1
theorem cG.other{W}{a off n}{g}(h:cG W a off n g)b o v(d:b≠a):cG (W.setCell (aj b o) v) a off n g:=by refine⟨by simpa using h.1,λk c=>?_⟩;simp only[fI];refine⟨?_,(h.2 k c).2⟩;rw[c_ _ _ _ _ (λe=>d rd),(h.2 k c).1]
theorem cG.congr{W}{a off n}{g b}(h:cG W a off n g)(e:∀j,j<n->g j=b j):cG W a off n b:=
 ⟨h.1,λj c=>by rw[<-e j c];exact h.2 j c⟩
theorem cG.below{A B}{a off n}{g}(h:cG A a off n g)(b:Bt A B):cG B a off n g:=
 ⟨zz007 h.1 b.size,λj c=>⟨(b.cell (p:=(aj a (off+j))) h.1).trans (h.2 j c).1,(b.frozen (p:=(aj a (off+j))) h.1).trans (h.2 j c).2⟩⟩
theorem vf{A B:World}{r b o}(a:A.grownBy B (some r))(c:b<A.heap.size)(d:b≠r):B.frozen? (aj b o)=A.frozen? (aj b o):=by unfold World.frozen?;rw[a.block b c (λe=>d (by injection e))]
theorem cG.grown{A B}{a off n r}{g}(h:cG A a off n g)(b:A.grownBy B (some r))(d:a≠r):cG B a off n g:=
 ⟨zz007 h.1 b.size,λj c=>⟨b.cell (h.2 j c).1 (by simpa using d),(vf b h.1 d).trans (h.2 j c).2⟩⟩
theorem dS.other{W}{d off n}{a b c}(h:dS W d off n a b c)r o v(f:r≠d):dS (W.setCell (aj r o) v) d off n a b c:=by have k:∀p,(W.setCell (aj r o) v).cell? (aj d p)=W.cell? (aj d p):=λp=>c_ _ _ _ _ (λe=>f rd);refine⟨by simpa using h.1,λj g=>by rw[k,k,k];exact h.2 j g⟩
theorem aV.other{W}{a off}{d}(h:aV W a off d)b o v(f:b≠a):aV (W.setCell (aj b o) v) a off d:=by refine⟨by simpa using h.1,λk c=>?_⟩;simp only[fI];refine⟨?_,(h.2 k c).2⟩;rw[c_ _ _ _ _ (λe=>f rd),(h.2 k c).1]
theorem yL{Q}(g:Q.Nodup):∃A,((dt Q).mergeSort λx y=>decide (x<=y))=dt A/\A.Perm Q/\A.Pairwise (·<·):=by
 obtain⟨A,e,hp⟩:=oq (List.mergeSort_perm (dt Q) λx y=>decide (x<=y));refine⟨A,e,hp,?_⟩;have d:(dt A).Pairwise (λx y=>decide (x<=y)=true):=by rw[<-e];exact List.pairwise_mergeSort (λa b c h1 i=>rd) (λa b=>by simp;omega) _
 unfold dt at d;rw[Kr]at d;have f:=hp.nodup_iff.2 g;refine(d.and f).imp λh=>?_;grind
structure KS(w wr:World)(n lb lo wb wo ob oo B fb:Nat)(Mn Mx Wt g:Nat->Int)(A:List Nat)(L V:Int)(k:Nat):Prop where
 len:cG wr lb lo n (λj=>if j∈A.take k then g j+L*Wt j/V else g j)
 frac:cG wr fb 0 n (λj=>if j∈A.take k then L*Wt j %V else 0)
 open_:aV wr ob oo (dt A)
 want:dS wr wb wo n Mn Mx Wt
 box:wr.cell? (aj (fb+1) 0)=some (Sq fb n n)
 size:fb+1<wr.heap.size
 bel:Below B w wr
theorem qc{A}{k}(a:k<A.length):(dt A)[k]?.getD 0=((A[k]?.getD 0:Nat):Int):=by simp[dt,a]
theorem eF(A:List Nat)k(a:k<A.length):A.take (k+1)=A.take k++[A[k]?.getD 0]:=by simp_all
theorem pO{A:List Nat}{k}(a:k<A.length):A[k]?.getD 0∈A:=rd
theorem fo{A:List Nat}{k}(a:A.Nodup)(b:k<A.length):A[k]?.getD 0∉A.take k:=by have h:=a.sublist (List.take_sublist (k+1) A);grind[eF]
theorem KS.next{w wr}{n a lo f s d r B b}{Mn Mx Wt g}{A}{L V}{k}(h:KS w wr n a lo f s d r B b Mn Mx Wt g A L V k)(u:A.Nodup)(p:k<A.length)i(hi:A[k]?.getD 0=i)(c:i<n)(h1:a≠d)(t:a≠f)(x:a<b)(y:d<b)(z:f<b)(l:B<=a)(m:B<=b):
 KS w ((wr.setCell (aj a (lo+i)) (Iq (g i+L*Wt i/V))).setCell (aj b (0+i)) (Iq (L*Wt i %V))) n a lo f s d r B b Mn Mx Wt g A L V (k+1):=by
 have q:=eF A k p;have o:=fo u p;rw[hi]at q o;have C:∀j,j∈A.take (k+1)↔j∈A.take k\/j=i:=λj=>by rw[q];simp
 refine⟨?_,?_,?_,?_,?_,?_,?_⟩;·refine((h.len.set i (g i+L*Wt i/V) c).other _ _ _ dg).congr λj v=>?_;grind[nQ]
 ·refine((h.frac.other a (lo+i) (Iq (g i+L*Wt i/V)) dg).set i _ c).congr λj v=>?_;grind[nQ]
 ·exact(h.open_.other _ _ _ h1).other _ _ _ dg
 ·exact(h.want.other _ _ _ t).other _ _ _ dg
 ·rw[c_ _ _ _ _ (λe=>rd),c_ _ _ _ _ (λe=>rd)];exact h.box
 ·simpa using h.size
 ·exact(h.bel.setCell l _).setCell m _
theorem KS.below{w W W'}{n lb lo e f c d B b}{Mn Mx Wt g}{A}{L V}{k}(h:KS w W n lb lo e f c d B b Mn Mx Wt g A L V k)(a:Bt W W')(i:B<=b):KS w W' n lb lo e f c d B b Mn Mx Wt g A L V k:=
 ⟨h.len.below a,h.frac.below a,h.open_.below a,h.want.below a,(a.cell (p:=(aj (b+1) 0)) h.size).trans h.box,zz007 h.size a.size,h.bel.trans (a.mono (by have:=h.size;omega))⟩
theorem Gh{f}{A}(h:∀j∈A,0<=f j)k:aq f (A.take k)<=aq f A:=by
 have e:aq f A=aq f (A.take k)+aq f (A.drop k):=by rw[<-kI,fy]
 have:0<=aq f (A.drop k):=cm λj a=>h j (iI a);omega
structure O7(w wr:World)(n lb lo ob oo B:Nat)(h:Nat->Int)(S:List Nat)(k:Nat):Prop where
 len:cG wr lb lo n (λj=>if j∈S.take k then h j+1 else h j)
 open_:aV wr ob oo (dt S)
 bel:Below B w wr
theorem O7.next{w wr}{n a lo e l B}{h}{S}{k}(H:O7 w wr n a lo e l B h S k)(hS:S.Nodup)(f:k<S.length)i(hi:S[k]?.getD 0=i)(c:i<n)(h1:a≠e)(b:B<=a):
 O7 w (wr.setCell (aj a (lo+i)) (Iq (h i+1))) n a lo e l B h S (k+1):=by
 have g:=eF S k f;have d:=fo hS f;rw[hi]at g d;have o:∀j,j∈S.take (k+1)↔j∈S.take k\/j=i:=λj=>by rw[g];simp
 refine⟨?_,H.open_.other _ _ _ h1,H.bel.setCell b _⟩;refine(H.len.set i (h i+1) c).congr λj m=>?_;grind[nQ]
theorem gn:(prog.info? 3).map (λi=>(i.zero,i.size,i.bytes))=some (some (Iq 0),1,8):=ns
theorem wV(n l lo lc wb wo wc d v oc B nq:Nat)(Mn Mx Wt g:Nat->Int)(Q:List Nat)(L V:Int)(w:World)(hl:cG w l lo n g)(hw:dS w wb wo n Mn Mx Wt)(ho:aV w d v (dt Q))(h1:l≠d)(h2:l≠wb)(h3:wb≠d)(zy:B<=l)(_E:B<=d)(zY:B<=w.heap.size)(hQ:Q.Nodup)(zB:∀j∈Q,j<n)(Yr:Q≠[])(zK:Q.length=nq)(YC:nq<=1073741824)(hqc:nq<=oc)(hoc:oc<=maxLen)(hn:n<=1073741824)(hL:0<=L/\L<=1073741824)(hV:V=aq Wt Q)(zk:0<V/\V<=1152921504606846976)(zF:∀j,0<=Wt j/\Wt j<=1073741824)(hg:∀j,0<=g j/\g j<=1073741824):
 Cw 237 #[.slice (some (aj l lo)) n lc,.slice (some (aj wb wo)) n wc,.slice (some (aj d v)) nq oc,Iq L,Iq V] w λe w'=>e=Rw (.tuple #[])/\
  ∃(S:List Nat) (m:Nat),S.Perm Q/\S.Pairwise (λi k=>L*Wt k %V<L*Wt i %V\/(L*Wt i %V=L*Wt k %V/\i<k))/\(m:Int)=L-aq (λj=>L*Wt j/V) S/\
   cG w' l lo n (λj=>if j∈S then g j+L*Wt j/V+(if j∈S.take m then 1 else 0)else g j)/\Below B w w':=by
 have CS:=qH<|
  rT (dt Q) d v oc nq w ho (by grind[ey]) dg;have HL:=qH<|hl;have HW:=qH<|hw;have zg:=qH<|zB;have HQ:Hid Q.Nodup:=hQ;have HV:=qH<|hV;have zh:=qH<|zF;have HG:=qH<|hg;have zP:=qH<|zK;have zi:=hL.1;have zA:=hL.2;have zl:=zk.1;have _K:=zk.2;have Rc:=hl.1;have Tv:=hw.1;have hzo:=ho.1;have Q7:=run_make_row' (P:=prog) 55 3 (Iq 0) 8 underlying55 gn rfl .i64 .i64 n dg dg;clear hl hw ho zB hQ hV zF hg zK hL zk;go_enter func237,ntmps237;go_wp2_with fail;refine CS.mono ?_;rintro e w1 ⟨rfl,zt,H⟩;obtain⟨A,hA,zV,zX⟩:=yL HQ;rw[hA]at zt;have Nz:=H.size;have zQ:=qH<|zt;have zN:=qH<|HL.grown H h1;have zS:=qH<|HW.grown H h3;have zM:=qH<|(af B w).grown H zY (λq X=>rd);have s:=qH<|zV;have zL:=qH<|zX;go_wp2;obtain⟨o,zm⟩:=ad w1.heap.size;rw[zm];have D0:Hid (KS w ((w1.alloc (.cells (madeCells #[Iq 0] n) 3)).alloc (.cells #[Sq o n n] 55)) n l lo wb wo d v B o Mn Mx Wt g A L V 0):=by
  have b1:Bt w1 ((w1.alloc (.cells (madeCells #[Iq 0] n) 3)).alloc (.cells #[Sq o n n] 55)):=((af _ w1).alloc (ae _) _).alloc rn _;refine⟨(zN.below b1).congr λj _=>rn,?_,zQ.below b1,zS.below b1,?_,by simp;omega,zM.trans (b1.mono dg)⟩
  ·refine⟨by simp;omega,λj z=>⟨?_,?_⟩⟩;·rw[World.cell?_alloc_past _ _ _ (by simp;omega),World.cell?_alloc_at _ _ _ _ zm.symm];simp[madeCells,z,uB]
   ·rw[World.frozen?_alloc_past _ _ _ (by simp;omega),World.frozen?_alloc_at _ _ _ _ zm.symm]
  ·rw[World.cell?_alloc_at _ _ _ _ (by simp;omega)];rfl
 have hlb:l<o:=dg;have hwb:wb<o:=dg;have U8:d<o:=dg;have E:=qH<|s.length_eq.trans zP;have zc:Hid A.Nodup:=s.nodup_iff.2 HQ;have zx:=qH<|HV.trans (ln s.symm);have zz:B<=o:=dg
 go_loopw[10,25] (λms i wr=>∃(k:Nat) (N:Int),ms=Iq N/\i=Iq k/\k<=nq/\0<=N/\N<=L/\Hid (N=L-aq (λj=>L*Wt j/V) (A.take k))/\Hid (KS w wr n l lo wb wo d v B o Mn Mx Wt g A L V k)) (λ_ i _=>nq-(intOf i).toNat);case atStart=>exact⟨0,L,rfl,rfl,aR _,dg,dg,by simp[Hid,aq],D0⟩
 case round=>
  obtain⟨k,N,rfl,rfl,hk,Yk,Yl,HM,HD⟩:=hrel;by_cases zI:k<nq
  ·have zJ:(k:Int)<(nq:Int):=dg
   have hd:=HD.out;have D:k<A.length:=by rw[E.out];exact zI
   obtain⟨i,hi⟩:=ad (A[k]?.getD 0);have a:=zg i (s.mem_iff.1 (by rw[<-hi];exact pO D));obtain⟨x,Y⟩:=ad (Wt i);obtain⟨gi,T⟩:=ad (g i);have u:=zh i;have R:=HG i;rw[Y]at u;rw[T]at R;have co:wr.cell? (aj d (v+k))=some (Iq (i:Int)):=by rw[(hd.open_.2 k (by rw[ey];exact D)).1,qc D,hi]
   have cw:wr.cell? (aj wb (wo+i*3+2))=some (Iq x):=by rw[(hd.want.2 i a).2.2,Y]
   have b:i∉A.take k:=by rw[<-hi];exact fo zc D
   have zT:wr.cell? (aj l (lo+i))=some (Iq gi):=by rw[(hd.len.2 i a).1];dsimp only;rw[if_neg b,T]
   have zU:=(hd.len.2 i a).2;have Z7:wr.cell? (aj o i)=some (Iq 0):=by have:=(hd.frac.2 i a).1;dsimp only at this;rw[if_neg b,aZ]at this;exact this
   have _g:wr.frozen? (aj o i)=false:=by have:=(hd.frac.2 i a).2;rw[aZ]at this;exact this
   have cb:=hd.box;have Ly:=hd.size;obtain⟨p,hp⟩:=ad (L*x);have W:0<=p:=by rw[<-hp];exact gx zi u.1
   have Qo:p<=1152921504606846976:=by rw[<-hp];exact gH (kP zA u.2 u.1 dg) (by decide)
   have Vq:=u.1;have Tt:=u.2;have H:=R.1;have _0:=R.2;obtain⟨q,X⟩:=ad (p/V);obtain⟨r,hr⟩:=ad (p %V);have hq0:0<=q:=by rw[<-X];exact Ak W dg
   have Te:q<=p:=by rw[<-X];exact Int.ediv_le_self _ W
   have Vg:0<=r:=by rw[<-hr];exact Aj _ dg
   have zt:r<V:=by rw[<-hr];exact Eb _ zl
   have Nw:p.tdiv V=q:=by rw[ux W,X]
   have YP:p.tmod V=r:=by rw[NY W,hr]
   have ze:Hid (KS w ((wr.setCell (aj l (lo+i)) (Iq (gi+q))).setCell (aj o (0+i)) (Iq r)) n l lo wb wo d v B o Mn Mx Wt g A L V (k+1)):=by have:=HD.next zc D i hi a h1 h2 hlb U8 hwb zy zz;rw[T,Y,hp,X,hr]at this;exact this
   have zw:Hid (N-q=L-aq (λj=>L*Wt j/V) (A.take (k+1))):=by show _=_;rw[eF A k D,dm,hi];have:=HM.out;rw[Y,hp,X];omega
   have Yp:0<=N-q:=by rw[zw.out];have t1:=Gh (f:=λj=>L*Wt j/V) (A:=A) (λj _=>Ak (gx zi (zh j).1) dg) (k+1);have t2:=(jo (L:=L) zx zl).1;omega
   have w1:IntKind.i64.wrap (gi+q)=gi+q:=IntWalk.i64_in _ ⟨dg,dg⟩;have w2:IntKind.i64.wrap q=q:=IntWalk.i64_in _ ⟨dg,dg⟩;have w3:IntKind.i64.wrap r=r:=IntWalk.i64_in _ ⟨dg,dg⟩;have w4:IntKind.i64.wrap p=p:=IntWalk.i64_in _ ⟨dg,dg⟩;have XD:V≠0:=dg;clear hd u R b Y T hi HM HD;go_wp2_with fail;go_big_region;go_wp2_with fail;go_big_region;go_wp2;go_roundw;case rel=>refine⟨k+1,N-q,rfl,by go_num,dg,dg,dg,zw,?_⟩;have:=ze.out;rw[aZ]at this;exact this.below ⟨rfl,rfl,rfl,rn,λ_ _=>rfl⟩ zz
   case measure=>simp[intOf];omega
  ·have zZ:¬(k:Int)<(nq:Int):=dg
   obtain rfl:k=nq:=dg;have hd:=HD.out;have J:=eP (by rw[E.out];omega);obtain⟨K,zn⟩:∃K:Nat->Int,(λj=>if j∈A.take k then L*Wt j %V else 0)=K:=⟨_,rfl⟩;obtain⟨hh,zq⟩:∃hh:Nat->Int,(λj=>if j∈A.take k then g j+L*Wt j/V else g j)=hh:=⟨_,rfl⟩;have I:=hd.len;have t:=hd.frac;rw[zq]at I;rw[zn]at t;have hF:∀j,j<n->((List.range n).map K)[j]?.getD 0=K j:=λj z=>by simp[z]
   have O:((List.range n).map K).length=n:=rn;have zu:=λj z=>zg j (s.mem_iff.1 z);have HS:Hid (Cw 250 #[.slice (some (aj d v)) k oc,.func (.func 254) #[] #[Pq (o+1)]] wr λe w'=>e=Rw (.tuple #[])/\ji wr w' d v (tm (λx=>((List.range n).map K)[x.toNat]?.getD 0)) [] (dt A) []):=by
    refine kG 254 #[Pq (o+1)] (enters_of func254 ns rfl) (λi k=>iR (((List.range n).map K)[k.toNat]?.getD 0) (((List.range n).map K)[i.toNat]?.getD 0)) (dt A) (tm (λx=>((List.range n).map K)[x.toNat]?.getD 0)) (Jf _ _) wr d v oc ?_ (dt A) wr k (dx _ _) hd.open_ (λx Y=>Y) (yb zL) (by rw[ey];exact E) dg;refine EV _ (o+1) o 0 n d wr (by rw[O];exact hd.box) (λj z=>?_) _ ?_ dg dg dg;·rw[O]at z;rw[hF j z];exact(t.2 j z).1
    ·intro x Y;obtain⟨j,rfl,z⟩:=m_ Y;exact⟨j,rfl,by rw[O];exact zu j z⟩
   have za:Hid (∀w2,ji wr w2 d v (tm (λx=>((List.range n).map K)[x.toNat]?.getD 0)) [] (dt A) []->∃S:List Nat,S.Perm A/\S.Pairwise (λi k=>L*Wt k %V<L*Wt i %V\/(L*Wt i %V=L*Wt k %V/\i<k))/\O7 w w2 n l lo d v B hh S 0/\wr.heap.size<=w2.heap.size):=by
    rintro w2 ⟨⟨M,hp,zr,YE⟩,zo⟩;obtain⟨S,rfl,hs⟩:=oq hp;refine⟨S,hs,?_,⟨?_,by simpa using YE,?_⟩,zo.size⟩
    ·unfold dt at zr;rw[Kr]at zr;refine List.Pairwise.imp_of_mem ?_ zr;intro i j hi z h;have zG:=hs.mem_iff.1 hi;have zH:=hs.mem_iff.1 z;simp only[tm,jG,hF i (zu i zG),hF j (zu j zH)]at h;rw[<-zn]at h;dsimp only at h;rw[J,if_pos zG,if_pos zH]at h;rcases h with h|⟨h,h'⟩;·exact .inl h
     ·exact .inr ⟨h,dg⟩
    ·exact(I.grown zo h1).congr λj _=>rn
    ·exact hd.bel.grown zo (by have:=hd.size;omega) (λq X=>by injection X with X;omega)
   obtain⟨m,hm⟩:∃m:Nat,N=(m:Int):=⟨N.toNat,dg⟩;subst hm;have Yp:(m:Int)<(k:Int):=by have:=(jo (L:=L) zx zl).2;have e:=HM.out;rw[J]at e;rw[<-e,E.out]at this;omega
   have zO:Hid ((m:Int)=L-aq (λj=>L*Wt j/V) A):=by have:=HM.out;rw[J]at this;exact this
   have zv:Hid (∀j,hh j=if j∈A then g j+L*Wt j/V else g j):=λj=>by rw[<-zq];dsimp only;rw[J]
   have UI:Hid (∀j,0<=hh j/\hh j<=2305843009213693952):=λj=>by rw[zv j];have a1:=HG j;have a2:=zh j;have a3:=gx zi a2.1;have a4:L*Wt j<=1152921504606846976:=gH (kP zA a2.2 a2.1 dg) (by decide);have a5:0<=L*Wt j/V:=Ak a3 dg;have a6:L*Wt j/V<=L*Wt j:=Int.ediv_le_self _ a3;split<;>omega
   have Ly:=hd.size;have hmc:(m:Int)<=(oc:Int):=dg;clear hd I t zq zn J hF O HM HD;go_wp2_with fail;refine HS.mono ?_;rintro e w2 ⟨rfl,hS⟩;obtain⟨S,zC,zD,hS3,XB⟩:=za w2 hS;have C:=qH<|zC;have zR:=qH<|zD;have HE:=qH<|hS3;clear hS zC zD hS3 za HS;go_wp2;go_loopw[64] (λi wr=>∃c:Nat,i=Iq c/\c<=m/\Hid (O7 w wr n l lo d v B hh S c)) (λi _=>m-(intOf i).toNat);case atStart=>exact⟨0,rfl,aR _,HE⟩
   case round=>
    obtain⟨c,rfl,hc,F⟩:=hrel;have zE:=C.length_eq.trans E;by_cases zI:c<m
    ·have zJ:(c:Int)<(m:Int):=dg
     have hd:=F.out;have G:c<S.length:=dg;obtain⟨i,hi⟩:=ad (S[c]?.getD 0);have a:i<n:=by have:=pO G;rw[hi]at this;exact zg i (s.mem_iff.1 (C.mem_iff.1 this))
     have SI:(i:Int)<(n:Int):=dg;have zj:=C.nodup_iff.2 zc;have co:wr.cell? (aj d (v+c))=some (Iq (i:Int)):=by rw[(hd.open_.2 c (by rw[ey];exact G)).1,qc G,hi]
     obtain⟨y,hy⟩:=ad (hh i);have Z:=UI i;rw[hy]at Z;have Vr:=Z.1;have Vs:=Z.2;have b:i∉S.take c:=by rw[<-hi];exact fo zj G
     have zT:wr.cell? (aj l (lo+i))=some (Iq y):=by rw[(hd.len.2 i a).1];dsimp only;rw[if_neg b,hy]
     have zU:=(hd.len.2 i a).2;have ze:Hid (O7 w (wr.setCell (aj l (lo+i)) (Iq (y+1))) n l lo d v B hh S (c+1)):=by have:=hd.next zj G i hi a h1 zy;rw[hy]at this;exact this
     clear hd Z b hi hy zj zE F;go_wp2;go_roundw;case rel=>exact⟨c+1,by go_num,dg,ze⟩
     case measure=>simp[intOf];omega
    ·have zZ:¬(c:Int)<(m:Int):=dg
     obtain rfl:c=m:=dg;have HZ:Hid (∃(S:List Nat) (m:Nat),S.Perm Q/\S.Pairwise (λi k=>L*Wt k %V<L*Wt i %V\/(L*Wt i %V=L*Wt k %V/\i<k))/\(m:Int)=L-aq (λj=>L*Wt j/V) S/\
      cG wr l lo n (λj=>if j∈S then g j+L*Wt j/V+(if j∈S.take m then 1 else 0)else g j)/\Below B w wr):=by
      refine⟨S,c,C.trans s,zR,zO.trans (by rw[ln C.out]),F.len.congr λj z=>?_,F.bel⟩;have U:=zv j;have zb:j∈S↔j∈A:=C.mem_iff;by_cases e:j∈S;·rw[if_pos (zb.1 e)]at U;rw[if_pos e,U];split<;>omega
      ·rw[if_neg (λh=>e (zb.2 h))]at U;rw[if_neg e,if_neg (λh=>e (iH h)),U]
     clear zE F;go_wp2;go_end0;obtain⟨S',m',z1,z2,z3,z4,z5⟩:=HZ.out;exact⟨rfl,S',z1,z2,m',z3,z4,z5⟩
structure KZ(w wr:World)(n lb lo wb wo g B:Nat)(Mn Mx Wt:Nat->Int)(Q:List Nat)(c:Nat):Prop where
 len:cG wr lb lo n (λj=>if j∈Q.take c then Mx j else Mn j)
 want:dS wr wb wo n Mn Mx Wt
 open_:aV wr g 0 (dt Q)
 bel:Below B w wr
theorem KZ.below{w W W'}{n lb lo b d g B}{Mn Mx Wt}{Q}{c}(h:KZ w W n lb lo b d g B Mn Mx Wt Q c)(a:Bt W W')(e:B<=w.heap.size):KZ w W' n lb lo b d g B Mn Mx Wt Q c:=
 ⟨h.len.below a,h.want.below a,h.open_.below a,h.bel.trans (a.mono (aF e h.bel.size))⟩
theorem KZ.next{w wr}{n a lo f l g B}{Mn Mx Wt}{Q}{c}(H:KZ w wr n a lo f l g B Mn Mx Wt Q c)(o:Q.Nodup)(h:c<Q.length)i(hi:Q[c]?.getD 0=i)(d:i<n)(h1:a≠g)(m:a≠f)(b:B<=a):
 KZ w (wr.setCell (aj a (lo+i)) (Iq (Mx i))) n a lo f l g B Mn Mx Wt Q (c+1):=by
 have k:=eF Q c h;have e:=fo o h;rw[hi]at k e;have q:∀j,j∈Q.take (c+1)↔j∈Q.take c\/j=i:=λj=>by rw[k];simp
 refine⟨?_,H.want.other _ _ _ m,H.open_.other _ _ _ h1,H.bel.setCell b _⟩;refine(H.len.set i (Mx i) d).congr λj p=>?_;grind[nQ]
structure pw(Mn Mx Wt:Nat->Int)(Q:List Nat)(L0:Int)(c:Nat)(L V:Int):Prop where
 left:L=L0-aq (λj=>Mx j-Mn j) (Q.take c)
 pos:0<=L
 weight:V=aq Wt (Q.drop c)
 full:∀j∈Q.take c,(Mx j-Mn j)*V<=L*Wt j
theorem l6(A:List Nat)k(a:k<A.length):A.drop k=(A[k]?.getD 0)::A.drop (k+1):=by simp_all
theorem yM{R}{Q:List Nat}(h:Q.Pairwise R){c}(b:c<Q.length):(∀j∈Q.take c,R j (Q[c]?.getD 0))/\(∀k∈Q.drop (c+1),R (Q[c]?.getD 0) k):=by
 have e:Q=Q.take c++((Q[c]?.getD 0)::Q.drop (c+1)):=by rw[<-l6 Q c b,fy]
 have a:(Q.take c++((Q[c]?.getD 0)::Q.drop (c+1))).Pairwise R:=by rw[<-e];exact h
 rw[je]at a;refine⟨λj d=>a.2.2 j d _ rn,?_⟩;exact(KG.1 a.2.1).1
theorem pw.next{Mn Mx Wt}{Q}{k}{c}{L V}(h:pw Mn Mx Wt Q k c L V)(m:∀j,0<=Mx j-Mn j)(n:Q.Pairwise (Pz Mn Mx Wt))(f:∀j∈Q,0<Wt j)(b:c<Q.length)i(hi:Q[c]?.getD 0=i)(d:(Mx i-Mn i)*V<=L*Wt i):pw Mn Mx Wt Q k (c+1) (L-(Mx i-Mn i)) (V-Wt i):=by
 have h1:=yM n b;rw[hi]at h1;have hd:=l6 Q c b;rw[hi]at hd;have o:=eF Q c b;rw[hi]at o;have g:=f i rd;have l:V=aq Wt (i::Q.drop (c+1)):=by rw[<-hd];exact h.weight
 have:=Fa (A:=Q.take c) (B:=Q.drop (c+1)) (i:=i) (L:=L) (W:=V) m (λj a=>⟨f j (iH a),h1.1 j a⟩) g (λj a=>f j (iI a)) l d;refine⟨?_,this.1,?_,?_⟩;·have e:=h.left;grind[dm]
 all_goals grind[bE]
theorem pw.stop{Mn Mx Wt}{Q}{g}{c}{L V}(h:pw Mn Mx Wt Q g c L V)(m:Q.Pairwise (Pz Mn Mx Wt))(b:∀j∈Q,0<Wt j)(e:c<Q.length)i(hi:Q[c]?.getD 0=i)(a:L*Wt i<(Mx i-Mn i)*V):0<V/\∀k∈Q.drop c,L*Wt k<(Mx k-Mn k)*V:=by
 have h1:=yM m e;rw[hi]at h1;have hd:=l6 Q c e;rw[hi]at hd;have d:=b i rd;have o:V=Wt i+aq Wt (Q.drop (c+1)):=by rw[<-bE,<-hd];exact h.weight
 have n:0<=aq Wt (Q.drop (c+1)):=cm λj l=>D' (b j (iI l));refine⟨dg,?_⟩;rw[hd];exact FC d dg (λk f=>⟨b k (iI f),h1.2 k f⟩) a
theorem pw.poured_all{Mn Mx Wt}{Q}{n}{r L V}(h:pw Mn Mx Wt Q (r-aq Mn (List.range n)) Q.length L V)(hp:Q.Perm (dd Wt n)):bH n Mn Mx Wt r (λj=>if j∈Q then Mx j else Mn j) Q [] L V 0:=by
 have e:Q.take Q.length=Q:=io;refine⟨by rw[jH];exact hp,?_,h.pos,by have:=h.weight;grind,by have:=h.full;rwa[e]at this,rn,λh=>(h rfl).elim,λ_=>rfl,List.Pairwise.nil,λj a=>?_⟩;·have:=h.left;grind
 grind
theorem pw.poured_some{Mn Mx Wt}{Q}{n c}{r L V}(h:pw Mn Mx Wt Q (r-aq Mn (List.range n)) c L V)(hp:Q.Perm (dd Wt n))S(m:Nat)(hS:S.Perm (Q.drop c))(o:∀k∈Q.drop c,L*Wt k<(Mx k-Mn k)*V)(a:Q.drop c≠[])(g:(m:Int)=L-aq (λj=>L*Wt j/V) S)(p:S.Pairwise (λi k=>L*Wt k %V<L*Wt i %V\/(L*Wt i %V=L*Wt k %V/\i<k))):
 bH n Mn Mx Wt r (λj=>if j∈S then(if j∈Q.take c then Mx j else Mn j)+L*Wt j/V+(if j∈S.take m then 1 else 0)else(if j∈Q.take c then Mx j else Mn j)) (Q.take c) S L V m:=by
 have b:(Q.take c++S).Perm Q:=by
  conv=>rhs;rw[<-List.take_append_drop c Q]
  exact List.Perm.append_left _ hS
 have l:=hp.nodup_iff.2 (uu.filter _);have d:∀j∈Q.take c,j∉S:=λj h1 q=>rd;refine⟨b.trans hp,h.left,h.pos,h.weight.trans (ln hS.symm),h.full,λj f=>o j (hS.mem_iff.1 f),λ_=>g,λe=>(a (by simp_all)).elim,p,λj f=>?_⟩;grind
def mJ(w w':World)(n lb lo B:Nat)(Mn Mx Wt:Nat->Int)(r:Int):Prop:=
 ∃(a:Nat->Int) (A S:List Nat) (L V:Int) (m:Nat),bH n Mn Mx Wt r a A S L V m/\cG w' lb lo n a/\Below B w w'
def MF:Value->Nat
 |.slice _ n _=>n
 |_=>0
theorem Jp(n b lo lc D G wc B:Nat)(Mn Mx Wt:Nat->Int)(r T:Int)(w:World)(hl:cG w b lo n Mn)(hw:dS w D G n Mn Mx Wt)(h2:b≠D)(zh:B<=b)(M:B<=w.heap.size)(hn:n<=1048576)(hM:∀j,0<=Mn j/\Mn j<=Mx j/\Mx j<=1048576/\0<=Wt j/\Wt j<=1048576)(hL:T=r-aq Mn (List.range n))(zb:0<=T/\T<=1073741824):
    Cw 214 #[.slice (some (aj b lo)) n lc,.slice (some (aj D G)) n wc,Iq T] w λe w'=>e=Rw (.tuple #[])/\mJ w w' n b lo B Mn Mx Wt r:=by
  have CO:=qH<|
    FE n D G wc Mn Mx Wt w hw (λj=>rd) dg;have HL:=qH<|hl;have HW:=qH<|hw;have HM:=qH<|hM;have zg:=qH<|hL;have Rc:=hl.1;have Tv:=hw.1;have zi:=zb.1;have zY:=zb.2;clear hl hw hM hL zb;go_enter func214,ntmps214;go_wp2_with fail;refine CO.mono ?_;rintro e w1 ⟨v,Q,rfl,hO,hp,hs,hb⟩;have HP:=qH<|hp;have HS:=qH<|hs;have X:=qH<|HL.below hb;have za:=qH<|HW.below hb;have W:=qH<|hb.mono M;have I:Hid (∀j∈Q,j<n/\0<Wt j):=λj N=>oe (hp.mem_iff.1 N);have Y:Hid Q.Nodup:=hp.nodup_iff.2 (uu.filter _);rcases hO with⟨hq,rfl⟩|⟨Yr,g,cp,rfl,_1,zI,_Q,zJ⟩
  · have HZ:Hid (mJ w w1 n b lo B Mn Mx Wt r):=by
      refine⟨_,Q,[],T,0,0,pw.poured_all ⟨?_,zi,?_,?_⟩ HP,X.congr λj _=>by simp[hq],W⟩;·rw[hq];simp[aq];exact zg
      ·rw[hq];rfl
      ·rw[hq];simp
    go_wp2;go_loop[7,16] (λt i=>t=Iq 0/\i=Iq 0) (λ_ _=>0);case atStart=>grind
    case round=>
      obtain⟨rfl,rfl⟩:=hrel;go_wp2;go_loop[2,6,7] (λt o v=>t=Iq T/\o=.slice none 0 0/\v=Iq 0) (λ_ _ _=>0);case atStart=>grind
      case round=>obtain⟨rfl,rfl,rfl⟩:=hrel;go_wp2;go_end0;exact⟨rfl,HZ⟩
  · obtain⟨nq,zt⟩:=ad Q.length;have H:=qH<|zt;have Z:=qH<|zJ;have Th:nq<=n:=by have:=HP.length_eq;have:=od Wt n;omega
    rw[zt]at zI⊢;have zr:b≠g:=dg;have zK:D≠g:=dg;have zy:B<=g:=dg;go_wp2;go_loop[7,16] (λt i=>∃(k:Nat) (s:Int),t=Iq s/\i=Iq k/\k<=nq/\0<=s/\s<=(k:Int)*1048576/\Hid (s=aq Wt (Q.take k))) (λ_ i=>nq-(intOf i).toNat);case atStart=>exact⟨0,0,rfl,rfl,aR _,dg,dg,by simp[Hid,aq]⟩
    case round=>
      obtain⟨k,s,rfl,rfl,hk,Qr,Ra,K⟩:=hrel;by_cases zG:k<nq
      · have zN:(k:Int)<(nq:Int):=dg
        have zq:k<Q.length:=by rw[H.out];exact zG
        obtain⟨i,hi⟩:=ad (Q[k]?.getD 0);have f:=(I i rd).1;obtain⟨x,F⟩:=ad (Wt i);have C:=HM i;rw[F]at C;have Vq:=C.2.2.2.1;have Tt:=C.2.2.2.2;have co:w1.cell? (aj g k)=some (Iq (i:Int)):=by have:=(Z.2 k (by grind[ey])).1;rw[qc zq,hi,aZ]at this;exact this
        have cw:w1.cell? (aj D (G+i*3+2))=some (Iq x):=by rw[(za.2 i f).2.2,F]
        have zx:Hid (s+x=aq Wt (Q.take (k+1))):=by show _=_;rw[eF Q k zq,dm,hi,F,K.out]
        have _8:((k+1:Nat):Int)*1048576=(k:Int)*1048576+1048576:=dg;clear C hi F K;go_wp2;go_round;case rel=>exact⟨k+1,s+x,rfl,by go_num,dg,dg,dg,zx⟩
        grind[intOf]
      · have Pf:¬(k:Int)<(nq:Int):=dg
        obtain rfl:nq=k:=dg;have N0:Hid (pw Mn Mx Wt Q (r-aq Mn (List.range n)) 0 T s):=by refine⟨by simp[aq];exact zg,zi,?_,rn⟩;rw[K.out,eP dg,Kt]
        have P0:Hid (KZ w w1 n b lo D G g B Mn Mx Wt Q 0):=⟨X.congr λj _=>rn,za,Z,W⟩;clear K X za Z W;go_wp2;have zH:(nq:Int)*1048576<=1099511627776:=dg
        go_loopw[2,6,7] (λl o v wr=>∃(c:Nat) (L V:Int) (p:Option Addr) (d e:Nat),l=Iq L/\o=.slice p d e/\v=Iq V/\c+d=nq/\c+e=cp/\0<=L/\L<=T/\0<=V/\V<=1099511627776/\Hid (0<d->p=some (aj g c))/\Hid (pw Mn Mx Wt Q (r-aq Mn (List.range n)) c L V)/\Hid (KZ w wr n b lo D G g B Mn Mx Wt Q c)) (λ_ o _ _=>MF o);case atStart=>grind
        case round=>
          obtain⟨c,L,V,p,d,e,rfl,rfl,rfl,_P,SB,zj,zZ,zk,zB,zv,R,E⟩:=hrel;by_cases hd:0<d
          · have _S:(0:Int)<(d:Int):=dg
            obtain rfl:=zv hd;have a:=E.out;have z:c<Q.length:=by rw[H.out];omega
            obtain⟨i,hi⟩:=ad (Q[c]?.getD 0);have zF:i∈Q:=by rw[<-hi];exact pO z
            have f:=(I i zF).1;have zM:(i:Int)<(n:Int):=dg;obtain⟨x,F⟩:=ad (Wt i);obtain⟨mn,q⟩:=ad (Mn i);obtain⟨mx,u⟩:=ad (Mx i);have C:=HM i;rw[F,q,u]at C;obtain⟨Pd,XI,Pe,zl,zD⟩:=C;have co:wr.cell? (aj g c)=some (Iq (i:Int)):=by have:=(a.open_.2 c (by rw[ey];exact z)).1;rw[qc z,hi,aZ]at this;exact this
            have zT:wr.cell? (aj D (G+i*3))=some (Iq mn):=by rw[(a.want.2 i f).1,q]
            have zU:wr.cell? (aj D (G+i*3+1))=some (Iq mx):=by rw[(a.want.2 i f).2.1,u]
            have zV:wr.cell? (aj D (G+i*3+2))=some (Iq x):=by rw[(a.want.2 i f).2.2,F]
            have J:i∉Q.take c:=by rw[<-hi];exact fo Y z
            have zS:wr.cell? (aj b (lo+i))=some (Iq mn):=by rw[(a.len.2 i f).1];dsimp only;rw[if_neg J,q]
            have zX:=(a.len.2 i f).2;obtain⟨U,zc⟩:=ad (mx-mn);have zn:0<=U:=dg;have zo:U<=1048576:=dg;obtain⟨pv,P⟩:=ad (U*V);have zQ:0<=pv:=by rw[<-P];exact gx zn zk
            have zR:pv<=1152921504606846976:=by rw[<-P];exact gH (kP zo zB zk dg) (by decide)
            obtain⟨lx,O⟩:=ad (L*x);have zO:0<=lx:=by rw[<-O];exact gx zj zl
            have zP:lx<=1125899906842624:=by rw[<-O];exact gH (kP (show L<=1073741824 by omega) zD zl dg) (by decide)
            have wdf:IntKind.i64.wrap U=U:=IntWalk.i64_in _ ⟨dg,dg⟩;by_cases zE:lx<pv
            · have ze:=R.stop HS (λj N=>(I j N).2) z i hi (by rw[F,u,q,zc,P,O];exact zE);have zA:=ze.1;have y:=a.below (W':=wr.drew) ⟨rfl,rfl,rfl,ae _,λ_ _=>rfl⟩ M;have A:(Q.drop c).length=d:=by rw[cL,H.out];omega
              have CD:Hid (Cw 237 #[.slice (some (aj b lo)) n lc,.slice (some (aj D G)) n wc,.slice (some (aj g c)) d e,Iq L,Iq V] wr.drew λe w'=>e=Rw (.tuple #[])/\
                  ∃(S:List Nat) (m:Nat),S.Perm (Q.drop c)/\S.Pairwise (λi k=>L*Wt k %V<L*Wt i %V\/(L*Wt i %V=L*Wt k %V/\i<k))/\(m:Int)=L-aq (λj=>L*Wt j/V) S/\
                    cG w' b lo n (λj=>if j∈S then(if j∈Q.take c then Mx j else Mn j)+L*Wt j/V+(if j∈S.take m then 1 else 0)else(if j∈Q.take c then Mx j else Mn j))/\Below B wr.drew w'):=by
                refine wV n b lo lc D G wc g c e B d Mn Mx Wt _ (Q.drop c) L V wr.drew y.len y.want ?_ zr h2 zK zh zy (aF M y.bel.size) (Y.sublist (List.drop_sublist _ _)) (λj N=>(I j (iI N)).1) (by intro h;rw[h]at A;simp at A;omega) A dg dg dg dg ⟨zj,dg⟩ R.weight ⟨zA,dg⟩ (λj=>by have:=HM j;omega) (λj=>by have:=HM j;split<;>omega);refine⟨y.open_.1,λj N=>?_⟩;rw[ey,A]at N;have h1:=y.open_.2 (c+j) (by rw[ey,H.out];omega);rw[aZ]at h1;refine⟨h1.1.trans ?_,h1.2⟩;have e1:dt (Q.drop c)=(dt Q).drop c:=by unfold dt;rw[List.map_drop]
                rw[e1,Ao]
              have HZ:Hid (∀w2,(∃(S:List Nat) (m:Nat),S.Perm (Q.drop c)/\S.Pairwise (λi k=>L*Wt k %V<L*Wt i %V\/(L*Wt i %V=L*Wt k %V/\i<k))/\(m:Int)=L-aq (λj=>L*Wt j/V) S/\
                    cG w2 b lo n (λj=>if j∈S then(if j∈Q.take c then Mx j else Mn j)+L*Wt j/V+(if j∈S.take m then 1 else 0)else(if j∈Q.take c then Mx j else Mn j))/\Below B wr.drew w2)->mJ w w2 n b lo B Mn Mx Wt r):=by rintro w2 ⟨S,m,q1,q2,q3,q4,q5⟩;exact⟨_,Q.take c,S,L,V,m,R.poured_some HP S m q1 ze.2 (by intro h;rw[h]at A;simp at A;omega) q3 q2,q4,y.bel.trans q5⟩
              clear ze y A a J hi F q u R E;go_wp2_with fail;go_big_region;go_wp2_with fail;refine CD.mono ?_;rintro e2 w2 ⟨rfl,hq⟩;have HF:=qH<|HZ w2 hq;clear hq HZ;go_wp2;go_end0;exact⟨rfl,HF⟩
            · have hNx:=R.next (λj=>by have:=HM j;omega) HS (λj N=>(I j N).2) z i hi (by rw[F,u,q,zc,P,O];omega);rw[F,u,q,zc]at hNx;have zu:=qH<|hNx;have zz:=hNx.pos;have zC:0<=V-x:=by rw[hNx.weight];exact cm λj _=>(HM j).2.2.2.1
              have zw:Hid (KZ w (wr.setCell (aj b (lo+i)) (Iq (mn+U))) n b lo D G g B Mn Mx Wt Q (c+1)):=by
                have:=a.next Y z i hi f zr h2 zh;rw[u]at this;have e:mn+U=mx:=dg
                rw[e];exact this
              have zL:¬pv>lx:=dg;have _U:(1:Int)<=(e:Int):=dg;have _T:(1:Int)<=(d:Int):=dg;clear hNx a J hi F q u R E;go_wp2_with fail;go_big_region;go_wp2_with fail;refine⟨⟨c+1,L-U,V-x,_,d-1,e-1,rfl,rfl,rfl,dg,dg,zz,dg,zC,dg,?_,zu,?_⟩,?_⟩;·intro h;rw[if_neg dg]
              ·exact zw.below ⟨rfl,rfl,rfl,ae _,λ_ _=>rfl⟩ M
              ·show d-1<d;omega
          · obtain rfl:d=0:=dg
            have zm:c=Q.length:=by rw[H.out];omega
            have HF:Hid (mJ w wr n b lo B Mn Mx Wt r):=by have h1:=R.out;have h2:=E.len;rw[zm]at h1 h2;exact⟨_,Q,[],L,V,0,h1.poured_all HP,h2.congr λj _=>by rw[io],E.bel⟩
            clear zm R E;go_wp2;go_end0;exact⟨rfl,HF⟩
def rm(Ci Nt:Int)(n:Nat):Int:=max 0 (cl Ci-cl Nt*((n:Int)-1))
theorem ue a b n:0<=rm a b n:=by grind[rm]
theorem JB a b n(d:0<n):rm a b n<=100000:=by have h1:=dq a;have c:0<=cl b*((n:Int)-1):=gx (dq b).1 dg;grind[rm]
structure pq(n:Nat)(mn:Nat->Int)(r:Int)(g:Nat->Int):Prop where
 bd:∀j,j<n->0<=g j/\g j<=mn j
 sum:aq g (List.range n)=r
 behind:∀i k,i<k->k<n->g i<mn i->g k=0
def bY(n:Nat)(mn mx wt:Nat->Int)(r:Int)(g:Nat->Int):Prop:=
 (r<aq mn (List.range n)/\pq n mn r g)\/(aq mn (List.range n)<=r/\∃(A S:List Nat) (L V:Int) (m:Nat),bH n mn mx wt r g A S L V m)
theorem Jv n(f:Nat->Int)j(a:j<n):((List.range n).map f)[j]?.getD 0=f j:=by simp[a]
theorem mu n(f:Nat->Int):((List.range n).map f).length=n:=rn
theorem cG.irow{W}{a off n}{g}(h:cG W a off n g):aV W a off ((List.range n).map g):=
 ⟨h.1,λj b=>by rw[mu]at b;rw[Jv n g j b];exact h.2 j b⟩
theorem aV.frow{W}{a off n}{d}(h:aV W a off d)(c:d.length=n):cG W a off n (λj=>d[j]?.getD 0):=
 ⟨h.1,λj b=>h.2 j dg⟩
theorem Gi(d:List Int):aq (λj=>d[j]?.getD 0) (List.range d.length)=d.sum:=by unfold aq;congr 1;refine List.ext_getElem rn λj h1 a=>?_;grind
theorem K9 n b(p:∀j,0<=b j)r a(q:0<=r)(h:a=aq b (List.range n)-r)(c:0<=a):pq n b r (λj=>(gb ((List.range n).map b) n a [])[j]?.getD 0)/\(gb ((List.range n).map b) n a []).length=n:=by have o:=mu n b;have s:((List.range n).map b).sum=aq b (List.range n):=rfl;have t:((List.range n).map b).take n=(List.range n).map b:=eP dg;obtain⟨X,e,g,u,w,v,_⟩:=xh ((List.range n).map b) (λi hi=>rd) n a [] dg c rd;rw[jH]at e;rw[e];refine⟨⟨λj l=>?_,?_,λi k d m f=>?_⟩,g⟩;all_goals grind[Jv,Gi]
def pM(w w':World)(lb n:Nat)(mn mx wt:Nat->Int)(r:Int):Prop:=w.heap.size<=lb/\(∃g,cG w' lb 0 n g/\bY n mn mx wt r g)/\Bt w w'
theorem Cu(p:Option Addr)(n b:Nat)(a c:Int)(w:World)(d:n=0\/200<n)(f:n<=5864062014805):
 Cw 170 #[Iq a,Iq c,.slice p n b] w λe w'=>e=Rw (.slice none 0 0)/\w'=w:=by
 rcases d with rfl|d;·go_enter func170,ntmps170;go_wp2;go_ret;simp_all
 ·have h1:(200:Int)<(n:Int):=dg
  have g:(n:Int)≠0:=dg;go_enter func170,ntmps170;go_wp2;go_ret;simp_all
structure GJ(w wr:World)(cw lb n k:Nat)(mn mx wt:Nat->Int):Prop where
 len:cG wr lb 0 n (λj=>if j<k then mn j else 0)
 want:dS wr cw 0 n mn mx wt
 bel:Bt w wr
theorem GJ.next{w wr}{c a n k}{b f g}(h:GJ w wr c a n k b f g)(l:k<n)(e:a≠c)(i:w.heap.size<=a)o:GJ w ((wr.setCell (aj a (0+k)) (Iq (b k))).alloc o) c a n (k+1) b f g:=by
 have d:Below (wr.setCell (aj a (0+k)) (Iq (b k))).heap.size (wr.setCell (aj a (0+k)) (Iq (b k))) ((wr.setCell (aj a (0+k)) (Iq (b k))).alloc o):=(af _ _).alloc (ae _) _;refine⟨((h.len.set k (b k) l).below d).congr λj m=>?_,(h.want.other _ _ _ e).below d,(h.bel.setCell i _).trans (d.mono ?_)⟩;·grind[nQ]
 ·have:=h.bel.size;simp_all
theorem Gd(n N off ze:Nat)(a b c:Nat->Int)(d u:Int)(w:World)(h:dS w N off n a b c)(zn:0<n)(hn:n<=200):
 Cw 170 #[Iq d,Iq u,.slice (some (aj N off)) n ze] w λe w'=>∃t,e=Rw (Sq t n n)/\pM w w' t n (λj=>cl (a j)) (λj=>dF (a j) (b j)) (λj=>cl (c j)) (rm d u n):=by
 have CW:=qH<|clampedWants_any n N off ze a b c w h dg;have CC:=qH<|shClamped_any;obtain⟨p,U⟩:∃f:Nat->Int,(λj=>cl (a j))=f:=⟨_,rfl⟩;obtain⟨J,W⟩:∃f:Nat->Int,(λj=>dF (a j) (b j))=f:=⟨_,rfl⟩;obtain⟨K,Z⟩:∃f:Nat->Int,(λj=>cl (c j))=f:=⟨_,rfl⟩;have HM:Hid (∀j,0<=p j/\p j<=J j/\J j<=100000/\0<=K j/\K j<=100000):=λj=>by rw[<-U,<-W,<-Z];simp_all[dq,gd]
 rw[U,W,Z]at CW⊢;obtain⟨r,hr⟩:=ad (rm d u n);have zi:=ue d u n;have zq:=JB d u n zn;rw[hr]at zi zq⊢;unfold rm at hr;obtain⟨cr,R⟩:=ad (cl d);obtain⟨cg,Q⟩:=ad (cl u);have z:=dq d;have s:=dq u;have C1:=qH<|λw=>by have:=CC d w;rw[R]at this;exact this
 have C2:=qH<|λw=>by have:=CC u w;rw[Q]at this;exact this
 rw[R]at hr z;rw[Q]at hr s;obtain⟨pr,X⟩:=ad (cg*((n:Int)-1));have zv:0<=pr:=by rw[<-X];exact gx s.1 dg
 have zw:pr<=20000000:=by rw[<-X];exact gH (kP s.2 (show(n:Int)-1<=200 by omega) dg dg) (by decide)
 rw[X]at hr;have zC:=z.1;have zD:=z.2;have zE:=s.1;have zF:=s.2;have v:=run_make_row' (P:=prog) 55 3 (Iq 0) 8 underlying55 gn rfl .i64 .i64 n dg dg;have zo:¬(n:Int)=0:=dg;have zL:¬(200:Int)<(n:Int):=dg;have zM:((n:Int)==0)=false:=by simpa using zo
 clear h U W Z R Q z s CC;go_enter func170,ntmps170;go_wp2_with(first|(go_at_call 211;refine CW.mono ?_;rintro e w1 ⟨rfl,F,q2⟩;fail)|(go_at_call 212;refine(C1 _).mono ?_;rintro e w5 ⟨rfl,rfl⟩)|(go_at_call 212;refine(C2 _).mono ?_;rintro e w5 ⟨rfl,rfl⟩));refine CW.mono ?_;rintro e w1 ⟨rfl,F,q2⟩;have zb:=qH<|F;have za:=qH<|q2;have zQ:=F.1;clear F q2 CW;go_wp2_with(first|(go_at_call 212;refine(C1 _).mono ?_;rintro e w5 ⟨rfl,rfl⟩)|(go_at_call 212;refine(C2 _).mono ?_;rintro e w5 ⟨rfl,rfl⟩));obtain⟨t,H⟩:=ad w1.heap.size;rw[H];have S0:Hid (GJ w (w1.alloc (.cells (madeCells #[Iq 0] n) 3)) w.heap.size t n 0 p J K):=by
  have b1:Bt w1 (w1.alloc (.cells (madeCells #[Iq 0] n) 3)):=(af _ w1).alloc (ae _) _;refine⟨⟨by simp;omega,λj hj=>⟨?_,?_⟩⟩,zb.below b1,za.trans (b1.mono dg)⟩;·rw[World.cell?_alloc_at _ _ _ _ H.symm];simp[madeCells,hj,uB]
  ·rw[World.frozen?_alloc_at _ _ _ _ H.symm]
 have zH:w.heap.size<t:=dg;have zm:Hid (∀k,aq p (List.range (k+1))=aq p (List.range k)+p k):=λk=>by rw[jM,dm]
 have zl:Hid (∀k,0<=aq p (List.range k)/\aq p (List.range k)<=(k:Int)*100000):=λk=>by
  refine⟨cm λj _=>(HM j).1,?_⟩;have:=eE (f:=p) (l:=List.range k) (b:=100000) λj _=>by have:=HM j;omega
  rw[Ec]at this;exact this
 clear zb za H v;go_loopw[8,36] (λl i wr=>∃(k:Nat) (x:Int),l=Iq x/\i=Iq k/\k<=n/\-20000000<=x/\x<=r/\Hid (x=r-aq p (List.range k))/\Hid (GJ w wr w.heap.size t n k p J K)) (λ_ i _=>n-(intOf i).toNat);case atStart=>exact⟨0,r,rfl,rfl,aR _,dg,dg,by simp[Hid,aq],S0⟩
 case round=>
  obtain⟨k,x,rfl,rfl,hk,zN,zO,M,HS⟩:=hrel;by_cases I:k<n
  ·have zt:(k:Int)<(n:Int):=dg
   have B:=HS.out;have zj:=zl (k+1);have Y:=zm k;have T:=B.want.2 k I;rw[aZ]at T;obtain⟨a1,D⟩:=ad (p k);obtain⟨a2,O⟩:=ad (J k);obtain⟨a3,zg⟩:=ad (K k);have v:=HM k;rw[D]at Y;rw[D,O]at v;rw[D,O,zg]at T;obtain⟨zy,zz,zA⟩:=T;have zR:=B.want.1;have zr:=B.len.1;have zx:wr.cell? (aj t k)=some (Iq 0):=by have:=(B.len.2 k I).1;dsimp only at this;rw[if_neg dg,aZ]at this;exact this
   have zB:wr.frozen? (aj t k)=false:=by have:=(B.len.2 k I).2;rw[aZ]at this;exact this
   have zc:Hid (x-a1=r-aq p (List.range (k+1))):=by show _=_;rw[Y,M.out];omega
   have zP:-20000000<=x-a1:=by rw[zc.out];have:=zj.2;omega
   have HN:=qH<|λo=>by have:=B.next I dg dg o;rw[D,aZ]at this;exact this
   have zI:=v.1;have zJ:=v.2.1;have zK:=v.2.2.1;clear B zj Y D O zg v M HS;go_wp2;go_roundw;case rel=>exact⟨k+1,x-a1,rfl,by go_num,dg,dg,dg,zc,HN _⟩
   grind[intOf]
  ·have zG:¬(k:Int)<(n:Int):=dg
   obtain rfl:n=k:=dg;have B:=HS.out;have G:=B.len.congr λj hj=>by rw[if_pos hj]
   have zr:=B.len.1;have E:=B.bel;have zk:=E.size;by_cases zu:x<0
   ·have CG:Hid (Cw 213 #[Sq t n n,Iq (-x)] wr λe w'=>e=Rw (.tuple #[])/\aV w' t 0 (gb ((List.range n).map p) n (-x) [])/\wr.grownBy w' (some t)):=by refine vd ((List.range n).map p) t 0 n (-x) wr n G.irow (mu n p) dg (λy hy=>?_) ⟨dg,dg⟩;obtain⟨j,_,rfl⟩:=jL.1 hy;have:=HM j;omega
    have HF:Hid (∀C,aV C t 0 (gb ((List.range n).map p) n (-x) [])->wr.grownBy C (some t)->pM w C t n p J K r):=by intro C hi hg;have zh:=K9 n p (λj=>(HM j).1) r (-x) zi (by rw[M.out];omega) dg;refine⟨dg,⟨_,hi.frow zh.2,.inl ⟨?_,zh.1⟩⟩,E.grown hg zk (λq hq=>rd)⟩;have:=M.out;omega
    clear B G E M HS;go_wp2_with fail;refine CG.mono ?_;rintro e C ⟨rfl,F,q2⟩;have HZ:=qH<|HF C F q2;clear F q2;go_wp2;go_ret;exact⟨t,rfl,HZ⟩
   ·have CP:=qH<|
     Jp n t 0 n w.heap.size 0 n w.heap.size p J K r x wr G B.want dg dg zk dg (λj=>by have:=HM j;omega) M ⟨dg,dg⟩;have HF:Hid (∀C,mJ wr C n t 0 w.heap.size p J K r->pM w C t n p J K r):=by rintro C ⟨g,A,S,L,V,m,p1,p2,p3⟩;refine⟨dg,⟨g,p2,.inr ⟨?_,A,S,L,V,m,p1⟩⟩,E.trans p3⟩;have:=M.out;omega
    clear B G E M HS;go_wp2_with fail;refine CP.mono ?_;rintro e C ⟨rfl,F⟩;have HZ:=qH<|HF C F;clear F;go_wp2;go_ret;exact⟨t,rfl,HZ⟩
end
section
variable{Mn Mx Wt:Nat->Int}
def eR(mn mx wt p q:Int):Int:=if mx*q<mn*q+p*wt then mx*q else mn*q+p*wt
theorem pX a b c p q:eR a b c p q<=b*q/\eR a b c p q<=a*q+p*c:=by grind[eR]
def jd(n:Nat)(Mn Mx Wt:Nat->Int)(p q:Int):Int:=aq (λj=>eR (Mn j) (Mx j) (Wt j) p q) (List.range n)
theorem xJ{a c b p q L V}(e:0<=b)(n:0<q)(m:0<V)(h:p*V<=L*q):eR a c b p q*V<=eR a c b L V*q:=by
 have h1:=(pX a c b p q).1;have d:=(pX a c b p q).2;have f:eR a c b p q*V<=c*q*V:=iF h1 dg;have g:eR a c b p q*V<=(a*q+p*b)*V:=iF d dg;have i:=iF h e;have j:c*q*V=c*V*q:=eI _ _ _;have k:(a*q+p*b)*V=a*V*q+p*V*b:=by rw[D_,eI a,eI p]
 have l:(a*V+L*b)*q=a*V*q+L*q*b:=by rw[D_,eI L]
 grind[eR]
theorem iM{f g}{l}(h:∀j∈l,f j<=g j)(e:aq f l=aq g l):∀j∈l,f j=g j:=by
 induction l with
 |nil=>grind
 |cons a l d=>have h1:=h a rn;have c:aq f l<=aq g l:=jx λj b=>h j (by simp[b]);grind[bE]
theorem bH.levs{n}{r}{a}{A S}{L W}{m}(h:bH n Mn Mx Wt r a A S L W m)(f:∀j,Mn j<=Mx j)(hp:∀j,0<=Wt j)(d:0<=W):
 ∀j,j<n->eR (Mn j) (Mx j) (Wt j) L W=if j∈A then Mx j*W else if j∈S then Mn j*W+L*Wt j else Mn j*W:=by
 obtain⟨l,hS,hd,g,i,c⟩:=h.facts;intro j o;unfold eR;by_cases h1:j∈A;·rw[if_pos h1];have:=h.full j h1;rw[Int.sub_mul]at this;omega
 ·rw[if_neg h1];by_cases b:j∈S;·rw[if_pos b];have:=h.open_ j b;grind
  ·rw[if_neg b];have k:Wt j=0:=by
    have:=hp j;by_cases e:0<Wt j;·grind
    ·omega
   have p:=iF (f j) d;grind
theorem nD{f}{n}{A}(b:A.Nodup)(c:∀j∈A,j<n):aq (λj=>if j∈A then f j else 0) (List.range n)=aq f A:=by rw[kJ (A:=A) uu b (λj a=>rd) (λj _ a=>if_neg a)];grind[bg]
theorem bH.tots{n}{r}{a}{A S}{L W}{m}(h:bH n Mn Mx Wt r a A S L W m)(o:∀j,Mn j<=Mx j)(hp:∀j,0<=Wt j)(k:0<=W):jd n Mn Mx Wt L W=r*W:=by
 obtain⟨i,hS,hd,e,g,c⟩:=h.facts;have l:=h.levs o hp k;have d:jd n Mn Mx Wt L W=W*aq Mn (List.range n)+(W*aq (λj=>Mx j-Mn j) A+L*aq Wt S):=by
  unfold jd;rw[<-eX W,<-eX W,<-eX L,<-nD (f:=λj=>W*(Mx j-Mn j)) i (λj b=>(e j b).1),<-nD (f:=λj=>L*Wt j) hS (λj b=>(g j b).1),<-eW,<-eW];refine bg λj b=>?_;rw[l j rd];by_cases h1:j∈A;·grind
  ·grind
 rw[d,<-h.weight,h.left];grind
theorem bH.same{n}{r}{a}{A S}{L W}{m}(h:bH n Mn Mx Wt r a A S L W m)(o:∀j,Mn j<=Mx j)(hp:∀j,0<=Wt j)(f:0<W){p q}(i:0<q)(l:jd n Mn Mx Wt p q=r*q):
 ∀j,j<n->eR (Mn j) (Mx j) (Wt j) p q*W=eR (Mn j) (Mx j) (Wt j) L W*q:=by
 have k:=h.tots o hp dg;have b:aq (λj=>eR (Mn j) (Mx j) (Wt j) p q*W) (List.range n)=r*q*W:=by rw[<-l];unfold jd;rw[iG _ W,<-eX];exact bg λj _=>iG _ _
 have d:aq (λj=>eR (Mn j) (Mx j) (Wt j) L W*q) (List.range n)=r*W*q:=by rw[<-k];unfold jd;rw[iG _ q,<-eX];exact bg λj _=>iG _ _
 have e:r*q*W=r*W*q:=eI _ _ _;intro j g;by_cases c:p*W<=L*q;·exact iM (λj _=>xJ (hp j) i f c) (by rw[b,d,e]) j (by simpa using g)
 ·exact(iM (λj _=>xJ (hp j) f i dg) (by rw[b,d,e]) j (by simpa using g)).symm
theorem EZ{a N q V:Int}(c:0<q)(b:0<V)(h:a*V=N*q):a/q=N/V/\a %q*V=N %V*q:=by
 refine⟨?_,?_⟩;·rw[<-Int.mul_ediv_mul_of_pos_left a q b,h,iG q V,Int.mul_ediv_mul_of_pos_left N V c]
 ·rw[iG (a %q) V,<-Int.mul_emod_mul_of_pos a q b,iG V a,h,iG (N %V) q,<-Int.mul_emod_mul_of_pos N V c,iG V q,iG q N]
def O'(Mn Mx Wt:Nat->Int)(A S:List Nat)(L W:Int)(j:Nat):Int:=if j∈A then Mx j else if j∈S then Mn j+L*Wt j/W else Mn j
def Lu(Wt:Nat->Int)(S:List Nat)(L W:Int)(j:Nat):Int:=if j∈S then L*Wt j %W else 0
theorem bH.parts{n}{r}{a}{A S}{L W}{m}(h:bH n Mn Mx Wt r a A S L W m)(i:∀j,Mn j<=Mx j)(hp:∀j,0<=Wt j)(d:0<W){p q}(g:0<q)(l:jd n Mn Mx Wt p q=r*q):
 ∀j,j<n->eR (Mn j) (Mx j) (Wt j) p q/q=O' Mn Mx Wt A S L W j/\eR (Mn j) (Mx j) (Wt j) p q %q*W=Lu Wt S L W j*q:=by
 obtain⟨t,hS,hd,o,s,e⟩:=h.facts;intro j f;have h1:=h.same i hp d g l j f;have k:=h.levs i hp dg j f;have c:=EZ g d h1;rw[c.1,c.2,k];unfold O' Lu;have b:W≠0:=dg;by_cases c1:j∈A;·rw[if_pos c1,if_pos c1,if_neg (hd j c1)];exact⟨Ej _ b,by simp_all⟩
 ·rw[if_neg c1,if_neg c1];by_cases c2:j∈S
  ·rw[if_pos c2,if_pos c2,if_pos c2];refine⟨?_,?_⟩;·rw[Int.add_comm,Int.add_mul_ediv_right _ _ b,Int.add_comm]
   ·rw[Int.add_comm,Int.add_mul_emod_self_right]
  ·rw[if_neg c2,if_neg c2,if_neg c2];exact⟨Ej _ b,by rw[Int.mul_emod_left]⟩
theorem bH.is_bse{n}{r}{a}{A S}{L W}{m}(h:bH n Mn Mx Wt r a A S L W m)j(c:j<n):a j=O' Mn Mx Wt A S L W j+(if j∈S.take m then 1 else 0):=by obtain⟨f,hS,hd,d,e,b⟩:=h.facts;rw[h.is j c];grind[O']
theorem bH.left_m{n}{r}{a}{A S}{L W}{m}(h:bH n Mn Mx Wt r a A S L W m)(hp:∀j,0<=Wt j)(b:S≠[]):m<=S.length/\r-aq (O' Mn Mx Wt A S L W) (List.range n)=m:=by
 obtain⟨s,hS,hd,q,l,f⟩:=h.facts;have c:0<W:=by obtain⟨x,i⟩:=uw S b;rw[h.weight];exact nL (l x i).2 (ii (λk _=>hp k) i)
 have o:=jo (L:=L) h.weight c;rw[<-h.miss b]at o;have g:m<=S.length:=dg;refine⟨g,?_⟩;have e:=(h.sum hp).1 b;rw[bg (λj d=>h.is_bse j rd),eW]at e;have p:aq (λj=>if j∈S.take m then(1:Int)else 0) (List.range n)=m:=by rw[kJ (A:=S) uu hS (λj d=>rd) (λj _ d=>if_neg (λe=>d (iH e))),yW S hS m g]
 omega
theorem bH.frac_pos{n}{r}{a}{A S}{L W}{m}(h:bH n Mn Mx Wt r a A S L W m)(hp:∀j,0<=Wt j)(w:0<W)t(E:t<m)(u:m<=S.length):0<L*Wt (S[t]?.getD 0) %W:=by
 have s:S≠[]:=by intro e;rw[e]at u;simp at u;omega
 have o:t<S.length:=dg;obtain⟨i,hi⟩:=ad (S[t]?.getD 0);rw[hi];have x:0<=L*Wt i %W:=Aj _ dg;by_cases z:L*Wt i %W=0
 ·exfalso;have e:aq (λj=>L*Wt j) S=W*aq (λj=>L*Wt j/W) S+aq (λj=>L*Wt j %W) S:=by rw[<-eX,<-eW];exact bg λj _=>(Int.mul_ediv_add_emod _ _).symm
  rw[eX,<-h.weight]at e;have q:=h.miss s;have b:S=S.take t++(i::S.drop (t+1)):=by rw[<-hi,dI o];show S=S.take t++(S[t]::S.drop (t+1));rw[<-List.drop_eq_getElem_cons o,fy]
  have f:=h.sorted;rw[b,je]at f;have c:∀k∈S.drop (t+1),L*Wt k %W=0:=λk y=>by have:=(KG.1 f.2.1).1 k y;have C:0<=L*Wt k %W:=Aj _ dg;omega
  have v:aq (λj=>L*Wt j %W) S=aq (λj=>L*Wt j %W) (S.take t):=by
   conv=>lhs;rw[b]
   rw[kI,bE,z];have:aq (λj=>L*Wt j %W) (S.drop (t+1))=0:=by
    rw[bg (g:=λ_=>0) c];have:∀l:List Nat,aq (λ_=>(0:Int)) l=0:=by
     intro l;induction l with
     |nil=>rfl
     |cons a l F=>grind[bE]
    exact this _
   omega
  have p:aq (λj=>L*Wt j %W) (S.take t)<=((S.take t).length:Int)*W:=eE λj _=>D' (Eb _ w);have d:(S.take t).length=t:=by rw[b_];omega
  rw[d]at p;have B:W*(m:Int)=aq (λj=>L*Wt j %W) S:=by rw[q,Int.mul_sub,iG W L];omega
  have D:W*(t+1:Int)<=W*(m:Int):=Kk dg dg;grind
 ·omega
def oA(mn mx wt p q:Int):Bool:=decide (0<wt/\mn*q+p*wt<mx*q)
def sN(n:Nat)(Mn Mx Wt:Nat->Int)(p q:Int):Int:=aq (λj=>if oA (Mn j) (Mx j) (Wt j) p q then Wt j else 0) (List.range n)
def sM(n:Nat)(Mn Mx Wt:Nat->Int)(p q:Int):Int:=aq (λj=>if oA (Mn j) (Mx j) (Wt j) p q then Mn j else if 0<Wt j then Mx j else Mn j) (List.range n)
def gT(n:Nat)(Mn Mx Wt:Nat->Int)(r p q:Int):Prop:=sN n Mn Mx Wt p q≠0/\0<=r-sM n Mn Mx Wt p q/\p*sN n Mn Mx Wt p q<=(r-sM n Mn Mx Wt p q)*q/\jd n Mn Mx Wt (r-sM n Mn Mx Wt p q) (sN n Mn Mx Wt p q)=r*sN n Mn Mx Wt p q
theorem Dl{n}{r}{a}{A S}{L W}{m}(h:bH n Mn Mx Wt r a A S L W m)(t:∀j,Mn j<=Mx j)(hp:∀j,0<=Wt j)(x:0<W)p q(d:p*W<=L*q)(w:∀j∈A,oA (Mn j) (Mx j) (Wt j) p q=false)(hS:∀j∈S,oA (Mn j) (Mx j) (Wt j) p q=true):gT n Mn Mx Wt r p q:=by
 obtain⟨u,v,hd,l,o,e⟩:=h.facts;have c:∀j,j<n->j∉A->j∉S->Wt j=0/\oA (Mn j) (Mx j) (Wt j) p q=false:=λj b h1 s=>by grind[oA]
 have k:sN n Mn Mx Wt p q=W:=by
  unfold sN;rw[h.weight,<-nD v (λj b=>(o j b).1)];refine bg λj b=>?_;have b:j<n:=by simpa using b
  by_cases s:j∈S;·grind
  ·grind
 have g:sM n Mn Mx Wt p q=aq Mn (List.range n)+aq (λj=>Mx j-Mn j) A:=by
  unfold sM;rw[<-nD (f:=λj=>Mx j-Mn j) u (λj b=>(l j b).1),<-eW];refine bg λj b=>?_;have b:j<n:=by simpa using b
  by_cases h1:j∈A;·grind
  ·grind
 have i:r-sM n Mn Mx Wt p q=L:=by rw[g,h.left];omega
 unfold gT;rw[k,i];exact⟨dg,h.pos,d,h.tots t hp dg⟩
theorem A' A(m:A≠[])(M V:Nat->Int)(f:∀j∈A,0<V j):∃i∈A,∀j∈A,M j*V i<=M i*V j:=by
 induction A with
 |nil=>grind
 |cons a A k=>
  by_cases e:A=[];·simp_all
  ·obtain⟨i,hi,d⟩:=k e (λj b=>f j (by simp[b]));by_cases c:M a*V i<=M i*V a;·grind
   ·refine⟨a,rn,λj b=>?_⟩;rcases gE.1 b with rfl|b;·omega
    ·have h1:=d j b;have n:=f a rn;have o:=f i (by simp[hi]);have p:=f j (by simp[b]);have g:M j*V i*V a<=M i*V j*V a:=iF h1 dg;have h:M i*V a*V j<=M a*V i*V j:=iF dg dg;have l:M j*V a*V i<=M a*V j*V i:=by rw[eI (M j) (V a) (V i),eI (M a) (V j) (V i)];refine gH g ?_;rw[eI (M i) (V j) (V a)];exact h
     simp_all
theorem bH.cand{n}{r}{a}{A S}{L W}{m}(h:bH n Mn Mx Wt r a A S L W m)(s:∀j,Mn j<=Mx j)(hp:∀j,0<=Wt j)(g:S≠[]):
 gT n Mn Mx Wt r 0 1\/∃i,i<n/\0<Wt i/\gT n Mn Mx Wt r (Mx i-Mn i) (Wt i):=by
 obtain⟨y,z,hd,d,e,q⟩:=h.facts;have p:0<W:=by obtain⟨x,t⟩:=uw S g;rw[h.weight];exact nL (e x t).2 (ii (λk _=>hp k) t)
 by_cases o:A=[];·subst o;left;refine Dl h s hp p 0 1 (by have:=h.pos;omega) rn λj b=>?_;unfold oA;have h1:=h.open_ j b;have f:=gx h.pos (hp j);grind
 ·right;obtain⟨i,hi,c⟩:=A' A o (λj=>Mx j-Mn j) Wt (λj b=>(d j b).2);refine⟨i,(d i hi).1,(d i hi).2,Dl h s hp p _ _ (h.full i hi) (λj b=>?_) (λj b=>?_)⟩;·unfold oA;have:=c j b;simp only[decide_eq_false_iff_not];rintro⟨_,f⟩;have l:(Mx j-Mn j)*Wt i=Mx j*Wt i-Mn j*Wt i:=Int.sub_mul _ _ _;omega
  ·unfold oA;simp only[decide_eq_true_eq];refine⟨(e j b).2,?_⟩;have h1:=h.full i hi;have f:=h.open_ j b;have wi:=(d i hi).2;have B:=(e j b).2;have l:(Mx i-Mn i)*W*Wt j<=L*Wt i*Wt j:=iF h1 dg;have u:=Ea f wi;have v:(Mx i-Mn i)*Wt j*W<(Mx j-Mn j)*Wt i*W:=by rw[eI (Mx i-Mn i) (Wt j) W,eI (Mx j-Mn j) (Wt i) W];refine Int.lt_of_le_of_lt l ?_;rw[eI L];exact u
   have w:=NZ v dg;grind
theorem bH.all_full{n}{r}{a}{A}{L W}{m}(h:bH n Mn Mx Wt r a A [] L W m)(v:∀j,Mn j<=Mx j)(hp:∀j,0<=Wt j){p q}(i:0<q)(k:jd n Mn Mx Wt p q=r*q):
 (∀j,j<n->eR (Mn j) (Mx j) (Wt j) p q=a j*q)/\r=aq a (List.range n):=by
 obtain⟨w,x,hd,l,o,f⟩:=h.facts;have u:=(h.sum hp).2 rfl;have d:∀j∈List.range n,eR (Mn j) (Mx j) (Wt j) p q<=a j*q:=λj c=>by
  have c:j<n:=by simpa using c
  rw[h.is j c];have h1:=(pX (Mn j) (Mx j) (Wt j) p q);grind
 have g:aq (λj=>a j*q) (List.range n)=aq a (List.range n)*q:=by rw[iG,<-eX];exact bg λj _=>iG _ _
 have b:=jx d;have e:aq (λj=>eR (Mn j) (Mx j) (Wt j) p q) (List.range n)=r*q:=k;rw[e,g]at b;have s:=NT b i;have t:r=aq a (List.range n):=by have:=h.pos;omega
 grind[iM]
structure mF(n:Nat)(f:Nat->Int)(b:Nat):Prop where
 lt:b<n
 top:∀j,j<n->f j<=f b
 first:∀j,j<b->f j<f b
theorem mF.uniq{n}{f}{b c}(h:mF n f b)(k:mF n f c):b=c:=by
 rcases Nat.lt_trichotomy b c with e|e|e;·have:=k.first b e;have:=h.top c k.lt;omega
 ·exact e
 ·have:=h.first c e;have:=k.top b h.lt;omega
theorem bH.best{n}{r}{a}{A S}{L W}{m}(h:bH n Mn Mx Wt r a A S L W m)(hp:∀j,0<=Wt j)(M:0<W)t(O:t<m)(D:m<=S.length)(rest:Nat->Int){q}(I:0<q)(J:∀j,j<n->rest j*W=Lu Wt S L W j*q):
 mF n (λj=>if j∈S.take t then-1 else rest j) (S[t]?.getD 0):=by
 obtain⟨R,P,hd,Q,y,G⟩:=h.facts;have p:=h.frac_pos hp M t O D;have o:t<S.length:=dg;obtain⟨i,hi⟩:=ad (S[t]?.getD 0);rw[hi]at p⊢;have f:i∈S:=by rw[<-hi,dI o];exact iE o
 have b:S=S.take t++(i::S.drop (t+1)):=by rw[<-hi,dI o];show S=S.take t++(S[t]::S.drop (t+1));rw[<-List.drop_eq_getElem_cons o,fy]
 have u:i∉S.take t:=by have:=P;rw[b,Kd]at this;exact λD=>this.2.2 i D i rn rfl
 have v:=h.sorted;rw[b,je]at v;have k:=(KG.1 v.2.1).1;have l:=J i (y i f).1;have z:Lu Wt S L W i=L*Wt i %W:=by unfold Lu;rw[if_pos f]
 rw[z]at l;have E:0<rest i:=by
  have h1:=Int.mul_pos p I;rw[<-l]at h1;by_cases e:0<rest i;·exact e
  ·have:rest i*W<=0:=Int.mul_nonpos_of_nonpos_of_nonneg dg dg;omega
 have w:∀j,j<n->j∉S.take t->j≠i->(rest j<rest i\/(rest j=rest i/\i<j)):=by
  intro j x H N;have d:=J j x;by_cases g:j∈S
  ·have B:j∈S.drop (t+1):=by
    rw[b]at g;rcases gF.1 g with h1|h1;·grind
    ·grind
   have s:Lu Wt S L W j=L*Wt j %W:=by unfold Lu;rw[if_pos g]
   rw[s]at d;rcases k j B with h1|⟨h1,K⟩;·left;have F:=Ea h1 I;rw[<-l,<-d]at F;exact NZ F dg
   ·right;refine⟨?_,K⟩;rw[<-h1,<-l]at d;exact Int.eq_of_mul_eq_mul_right dg d
  ·left;have s:Lu Wt S L W j=0:=by unfold Lu;rw[if_neg g]
   rw[s,Int.zero_mul]at d;have:rest j=0:=by
    rcases Int.mul_eq_zero.1 d with h|h;·exact h
    ·omega
   omega
 refine⟨(y i f).1,λj x=>?_,λj x=>?_⟩
 ·rw[if_neg u];by_cases c:j∈S.take t;·rw[if_pos c];omega
  ·rw[if_neg c];by_cases e:j=i;·rw[e];exact iD _
   ·rcases w j x c e with h|⟨h,_⟩<;>omega
 ·rw[if_neg u];have C:j<n:=by have:=(y i f).1;omega
  by_cases c:j∈S.take t;·rw[if_pos c];omega
  ·rw[if_neg c];rcases w j C c dg with h|⟨_,h⟩<;>omega
theorem yT f n k(a:k<=n):aq f (List.range n)=aq f (List.range k)+aq f ((List.range n).drop k):=by
 rw[<-kI];congr 1;have:List.range k=(List.range n).take k:=by rw[List.take_range,Eh a]
 rw[this,fy]
theorem xN{n k j}(h:j∈(List.range n).drop k):k<=j/\j<n:=by obtain⟨i,hi,e⟩:=o_.1 h;grind
theorem pq.le_of{n}{i}{r}{g b}(h:pq n i r g)(f:pq n i r b)k(m:k<n)(e:∀j,j<k->g j=b j):b k<=g k:=by
 by_cases c:b k<=g k;·exact c
 ·exfalso;have q:=f.bd k m;have o:=yT g n (k+1) dg;have p:=yT b n (k+1) dg;have t1:aq g ((List.range n).drop (k+1))<=0:=by
   have:aq g ((List.range n).drop (k+1))<=aq (λ_=>0) ((List.range n).drop (k+1)):=jx λj d=>by have:=xN d;rw[h.behind k j dg dg dg];omega
   refine gH this ?_;have z:∀l:List Nat,aq (λ_=>(0:Int)) l=0:=by
    intro l;induction l with
    |nil=>rfl
    |cons a l s=>grind[bE]
   rw[z];exact iD _
  have t2:0<=aq b ((List.range n).drop (k+1)):=cm λj d=>(f.bd j (xN d).2).1;have t3:aq g (List.range k)=aq b (List.range k):=bg λj d=>e j rd;rw[jM,dm]at o p;have:=h.sum;have:=f.sum;omega
theorem pq.uniq{n}{d}{r}{g b}(h:pq n d r g)(c:pq n d r b):∀j,j<n->g j=b j:=by
 have:∀k,k<=n->∀j,j<k->g j=b j:=by
  intro k;induction k with
  |zero=>omega
  |succ k f=>
   intro p j o;have a:=f dg;by_cases e:j<k;·grind
   ·obtain rfl:j=k:=dg
    have l:=h.le_of c j dg a;have m:=c.le_of h j dg (λi hi=>(a i hi).symm);omega
 grind
end
section
open Go.RowKit Go.Sort
def lA(Mn Mx Wt:Nat->Int):Prop:=∀j,0<=Mn j/\Mn j<=Mx j/\Mx j<=100000/\0<=Wt j/\Wt j<=100000
structure C0(n:Nat)(Mn Mx Wt:Nat->Int)(r p q:Int)(g:Nat->Int)(S:List Nat)(m:Nat)(base rest:Nat->Int):Prop where
 base_:∀j,j<n->eR (Mn j) (Mx j) (Wt j) p q/q=base j
 rest_:∀j,j<n->eR (Mn j) (Mx j) (Wt j) p q %q=rest j
 left:r-aq base (List.range n)=m
 le:m<=S.length
 nodup:S.Nodup
 lt:∀j∈S,j<n
 best:∀t,t<m->mF n (λj=>if j∈S.take t then-1 else rest j) (S[t]?.getD 0)
 is:∀j,j<n->g j=base j+(if j∈S.take m then 1 else 0)
theorem kx{n}{Mn Mx Wt}{r p q}{g}(o:lA Mn Mx Wt)(i:bY n Mn Mx Wt r g)(z:aq Mn (List.range n)<=r)(f:0<q)(e:jd n Mn Mx Wt p q=r*q):∃S m c rest,C0 n Mn Mx Wt r p q g S m c rest:=by
 have v:=λj=>(o j).2.1;have hp:=λj=>(o j).2.2.2.1;rcases i with⟨h1,_⟩|⟨_,A,S,L,V,m,h⟩;·omega
 ·obtain⟨D,B,hd,C,l,u⟩:=h.facts;by_cases hS:S=[];·subst hS;have y:=h.all_full v hp f e;refine⟨[],0,g,λj=>eR (Mn j) (Mx j) (Wt j) p q %q,λj a=>?_,λ_ _=>rfl,dg,rn,rn,rn,λt e=>dg,λj a=>rn⟩;rw[y.1 j a];exact Ej _ dg
  ·have s:0<V:=by obtain⟨x,w⟩:=uw S hS;rw[h.weight];exact nL (l x w).2 (ii (λk _=>hp k) w)
   have d:=h.parts v hp s f e;have b:=h.left_m hp hS;exact⟨S,m,O' Mn Mx Wt A S L V,λj=>eR (Mn j) (Mx j) (Wt j) p q %q,λj a=>(d j a).1,λ_ _=>rfl,b.2,b.1,B,λj a=>(l j a).1,λt e=>h.best hp s t e b.1 _ f (λj a=>(d j a).2),λj a=>h.is_bse j a⟩
theorem mF.congr{n}{f g}{b}(h:mF n f b)(e:∀j,j<n->f j=g j):mF n g b:=by
 refine⟨h.lt,λj a=>?_,λj a=>?_⟩;·rw[<-e j a,<-e b h.lt];exact h.top j a
 ·have:=h.lt;rw[<-e j dg,<-e b h.lt];exact h.first j a
theorem C0.uniq{n}{Mn Mx Wt}{r p q}{g l}{S i}{m v}{d a rest c}(h:C0 n Mn Mx Wt r p q g S m d rest)(f:C0 n Mn Mx Wt r p q l i v a c):∀j,j<n->g j=l j:=by
 have o:=λj b=>(h.base_ j b).symm.trans (f.base_ j b);have F:=λj b=>(h.rest_ j b).symm.trans (f.rest_ j b);have G:aq d (List.range n)=aq a (List.range n):=bg λj b=>o j rd;have B:m=v:=by have h1:=h.left;have E:=f.left;omega
 subst B;have C:∀t,t<=m->S.take t=i.take t:=by
  intro t;induction t with
  |zero=>grind
  |succ t D=>
   intro A;have e:=D dg;have w:=h.best t dg;have x:=f.best t dg;have y:=w.congr (g:=λj=>if j∈i.take t then-1 else c j) λj b=>rd;have k:=y.uniq x;have s:t<S.length:=by have:=h.le;omega
   have u:t<i.length:=by have:=f.le;omega
   rw[dI s,dI u]at k;have z:S[t]=i[t]:=k;rw[gG s,gG u,e,z]
 intro j b;rw[h.is j b,f.is j b,o j b,C m (ae _)]
theorem bY.uniq{n}{Mn Mx Wt}{r}{g y}(c:lA Mn Mx Wt)(h:bY n Mn Mx Wt r g)(q:bY n Mn Mx Wt r y):∀j,j<n->g j=y j:=by
 have C:=λj=>(c j).2.1;have hp:=λj=>(c j).2.2.2.1;have k:=h;have k':=q;rcases h with⟨a,b⟩|⟨a,A,S,L,V,m,p⟩
 ·rcases q with⟨a',E⟩|⟨a',_⟩;·exact b.uniq E
  ·omega
 ·rcases q with⟨a',_⟩|⟨a',H,v,I,D,K,l⟩;·omega
  ·obtain⟨_,_,_,J,G,z⟩:=p.facts;obtain⟨_,_,_,F,o,s⟩:=l.facts;by_cases e:S=[]
   ·by_cases w:v=[];·subst e;subst w;intro j B;rw[p.is j B,l.is j B];grind
    ·have d:0<D:=by obtain⟨x,i⟩:=uw v w;rw[l.weight];exact nL (o x i).2 (ii (λk _=>hp k) i)
     have f:=l.tots C hp dg;obtain⟨_,_,_,_,t⟩:=kx c k a d f;obtain⟨_,_,_,_,u⟩:=kx c k' a' d f;exact t.uniq u
   ·have d:0<V:=by obtain⟨x,i⟩:=uw S e;rw[p.weight];exact nL (G x i).2 (ii (λk _=>hp k) i)
    have f:=p.tots C hp dg;obtain⟨_,_,_,_,t⟩:=kx c k a d f;obtain⟨_,_,_,_,u⟩:=kx c k' a' d f;exact t.uniq u
end
section
open Go.RowKit Go.Sort Go.Proofs.Tryz
def eH(a b c:Nat->Int):Nat->List Value
 |0=>[]
 |k+1=>eH a b c k++[Iq (a k),Iq (b k),Iq (c k)]
theorem sw a b c:∀k,(eH a b c k).length=k*3
 |0=>rfl
 |k+1=>by rw[eH,aU,sw a b c k];grind
theorem oE a b c:∀k j,j<k->(eH a b c k)[j*3]?=some (Iq (a j))/\(eH a b c k)[j*3+1]?=some (Iq (b j))/\(eH a b c k)[j*3+2]?=some (Iq (c j))
 |0,j,h=>dg
 |k+1,j,h=>by
  have d:=sw a b c k;by_cases e:j<k;·have:=oE a b c k j e;grind[eH]
  grind[eH]
def R'(B:Nat)(W:World)(v:Value)(n:Nat)(a b c:Nat->Int):Prop:=∃p cap,v=.slice p n cap/\(n=0\/∃g,p=some (aj g 0)/\B<=g/\dS W g 0 n a b c)
theorem Af{W}{B n}{e}{v}{a b c}(h:W.ownsRow B e 3 v n (eH a b c n)):R' B W v n a b c:=by
 have f:=h;rcases h.2 with⟨rfl,rfl⟩|⟨g,d,i,rfl,k,l,h1,o,_⟩;·exact⟨none,0,rfl,.inl rfl⟩
 ·refine⟨some (aj g 0),d,rfl,.inr ⟨g,rfl,k,(aD.1 l).1,λj m=>?_⟩⟩;have:=oE a b c n j m;rw[f.cellAt _ dg,f.cellAt _ dg,f.cellAt _ dg,aZ];omega
def O_(W:World)(v:Value)(n:Nat)(a b c:Nat->Int):Prop:=∃p cap,v=.slice p n cap/\(n=0\/∃g off,p=some (aj g off)/\dS W g off n a b c)
theorem O_.below{A B}{v}{n}{a b c}(h:O_ A v n a b c)(e:Bt A B):O_ B v n a b c:=by
 obtain⟨p,d,i,h⟩:=h;refine⟨p,d,i,?_⟩;rcases h with h|⟨g,off,hp,f⟩;·omega
 ·exact .inr ⟨g,off,hp,f.below e⟩
def uK(w w':World)(v:Value)(n:Nat)(a b c:Nat->Int)(Ci Nt:Int):Prop:=
 ((n=0\/200<n)/\v=.slice none 0 0/\w'=w)\/(0<n/\n<=200/\∃lb,v=Sq lb n n/\pM w w' lb n (λj=>cl (a j)) (λj=>dF (a j) (b j)) (λj=>cl (c j)) (rm Ci Nt n))
theorem lm v n a b c d f w(h:O_ w v n a b c)(r:n<=5864062014805):
 Cw 170 #[Iq d,Iq f,v] w λe w'=>∃v,e=Rw v/\uK w w' v n a b c d f:=by
 obtain⟨p,i,rfl,h⟩:=h;by_cases j:n=0\/200<n;·exact(Cu p n i d f w j dg).mono λe w' ⟨k,o⟩=>⟨_,k,.inl ⟨j,rfl,o⟩⟩
 ·obtain⟨g,off,rfl,l⟩:=h.resolve_left (λe=>j (.inl e));exact(Gd n g off i a b c d f w l dg dg).mono λe w' ⟨q,k,m⟩=>⟨_,k,.inr ⟨dg,dg,q,rfl,m⟩⟩
theorem uK.below{w w'}{v}{n}{a b c}{d e}(h:uK w w' v n a b c d e):Bt w w':=by
 rcases h with⟨_,_,rfl⟩|⟨_,_,lb,_,h⟩;·exact af _ _
 ·exact h.2.2
end
section
open Go.RowKit Go.Sort
theorem bY.tiles{n}{a b c g}{r}(h:bY n a b c r g)(d:∀j,0<=a j/\a j<=b j/\b j<=100000/\0<=c j/\c j<=100000):
 (∀j,j<n->0<=g j/\g j<=b j)/\(r<=aq a (List.range n)\/r<=aq (λj=>if 0<c j then b j else a j) (List.range n)->aq g (List.range n)=r)/\
  (aq a (List.range n)<r->aq (λj=>if 0<c j then b j else a j) (List.range n)<r->aq g (List.range n)=aq (λj=>if 0<c j then b j else a j) (List.range n)):=by
 have i:aq a (List.range n)<=aq (λj=>if 0<c j then b j else a j) (List.range n):=jx λj _=>rd;rcases h with⟨h1,f⟩|⟨h1,A,S,L,V,m,hp⟩;·refine⟨λj e=>?_,λ_=>f.sum,λh=>dg⟩;have:=f.bd j e;grind
 ·have k:=hp.tiles (λj=>(d j).2.1) (λj=>(d j).2.2.2.1);refine⟨λj e=>?_,λh=>dg,λ_ h=>dg⟩;have:=hp.bds (λj=>(d j).2.1) (λj=>(d j).2.2.2.1) j e;grind
theorem fG(a b c:Nat->Int)j:0<=cl (a j)/\cl (a j)<=dF (a j) (b j)/\dF (a j) (b j)<=100000/\0<=cl (c j)/\cl (c j)<=100000:=
 ⟨(dq _).1,(gd _ _).1,(gd _ _).2,(dq _).1,(dq _).2⟩
end
section
open Go.RowKit Go.Sort Go.Proofs.Tryz
def cd(g:Nat->Int)(cg:Int)(k:Nat):Int:=aq (λj=>g j+cg) (List.range k)
theorem ld g a k:cd g a (k+1)=cd g a k+(g k+a):=by unfold cd;rw[jM,dm]
theorem la{g}{a}{n}(e:∀j,j<n->0<=g j/\g j<=100000)(d:0<=a/\a<=100000)k(h:k<=n):0<=cd g a k/\cd g a k<=(k:Int)*200000:=by
 refine⟨cm λj c=>rd,?_⟩;have:=eE (f:=λj=>g j+a) (l:=List.range k) (b:=200000) λj c=>rd;rw[Ec]at this;exact this
def GD(w w':World)(v:Value)(n:Nat)(a b c:Nat->Int)(Ci Nt:Int):Prop:=
 ((n=0\/200<n)/\v=.slice none 0 0/\w'=w)\/(0<n/\n<=200/\∃lb g,v=Sq lb n n/\cG w' lb 0 n (cd g (cl Nt))/\bY n (λj=>cl (a j)) (λj=>dF (a j) (b j)) (λj=>cl (c j)) (rm Ci Nt n) g/\Bt w w')
theorem GD.below{w w'}{v}{n}{a b c}{d e}(h:GD w w' v n a b c d e):Bt w w':=by
 rcases h with⟨_,_,rfl⟩|⟨_,_,lb,g,_,_,_,h⟩;·exact af _ _
 omega
theorem Mb g a k j:nQ (λj=>if j<k then cd g a j else g j) k (cd g a k) j=if j<k+1 then cd g a j else g j:=by grind[nQ]
def N5(w:World)(v:Value):Prop:=∀lb o n c,v=.slice (some (aj lb o)) n c->w.heap.size<=lb
theorem yc(v:Value)(n:Nat)(a b c:Nat->Int)(f d:Int)(w:World)(h:O_ w v n a b c)(hn:n<=5864062014805):
 Cw 171 #[Iq f,Iq d,v] w λe w'=>∃v,e=Rw v/\GD w w' v n a b c f d/\N5 w v:=by
 have S:Hid (Cw 170 #[Iq f,Iq d,v] w λe w'=>∃v,e=Rw v/\uK w w' v n a b c f d):=lm v n a b c f d w h hn;have T:Hid (∀w,Cw 212 #[Iq d] w λe w'=>e=Rw (Iq (cl d))/\w'=w):=λw=>shClamped_any d w;have q:=dq d;obtain⟨l,m⟩:=ad (cl d);have J:Hid (cl d=l):=m;rw[m]at T q;have N:=q.1;have O:=q.2;clear h m q;go_enter func171,ntmps171;go_wp2_with fail;refine S.out.mono ?_;rintro e I ⟨v2,rfl,hs⟩;clear S;rcases hs with⟨V,rfl,rfl⟩|⟨h1,W,z,rfl,Q,⟨g,y,D⟩,t⟩
 ·have HO:Hid (GD I I (.slice none 0 0) n a b c f d):=.inl ⟨V,rfl,rfl⟩;clear V;go_wp2;go_loop[8,17] (λs i=>s=Iq 0/\i=Iq 0) (λ_ _=>0);case atStart=>grind
  case round=>obtain⟨rfl,rfl⟩:=hrel;go_wp2;go_ret;exact⟨_,rfl,HO.out,λz o n c e=>by cases e⟩
 ·have B:∀j,j<n->0<=g j/\g j<=100000:=λj X=>by have h1:=(D.tiles (fG a b c)).1 j X;have W:=fG a b c j;omega
  have K:Hid (∀j,j<n->0<=g j/\g j<=100000):=B;have E:Hid (∀k,k<=n->0<=cd g l k/\cd g l k<=(k:Int)*200000):=λk P=>la B ⟨N,O⟩ k P;have M:Hid (bY n (λj=>cl (a j)) (λj=>dF (a j) (b j)) (λj=>cl (c j)) (rm f d n) g):=D;have R0:Hid (cG I z 0 n (λj=>if j<0 then cd g l j else g j)/\Bt w I):=⟨y.congr λj _=>rn,t⟩;clear B D y t;go_wp2;go_loopw[8,17] (λs i wr=>∃k:Nat,s=Iq (cd g l k)/\i=Iq k/\k<=n/\Hid (cG wr z 0 n (λj=>if j<k then cd g l j else g j)/\Bt w wr)) (λ_ i _=>n-(intOf i).toNat);case atStart=>exact⟨0,rfl,rfl,aR _,R0.out⟩
  case round=>
   obtain⟨k,rfl,rfl,P,A⟩:=hrel;by_cases C:k<n
   ·have Y:(k:Int)<(n:Int):=dg
    have H:=A.out.1.2 k C;dsimp only at H;rw[if_neg dg,aZ]at H;have F:=K.out k C;have G:=E.out k P;have R:=E.out (k+1) dg;have r:=ld g l k;have p:=A.out.1.set k (cd g l k) C;rw[aZ]at p;have U:Hid (cG (wr.setCell (aj z k) (Iq (cd g l k))) z 0 n (λj=>if j<k+1 then cd g l j else g j)/\Bt w (wr.setCell (aj z k) (Iq (cd g l k)))):=⟨p.congr λj _=>Mb g l k j,A.out.2.setCell Q _⟩;obtain⟨gk,u⟩:=ad (g k);rw[u]at H F r;obtain⟨o1,x⟩:=ad (cd g l k);rw[x]at G r U⊢;have L:Hid (cd g l (k+1)=o1+(gk+l)):=r;obtain⟨za,zb⟩:=H;obtain⟨zc,ze⟩:=F;obtain⟨zi,zj⟩:=G;clear p u x R r A;go_wp2_with(go_at_call 212;refine(T.out _).mono ?_;rintro e w5 ⟨rfl,rfl⟩);go_roundw;case rel=>exact⟨k+1,by rw[L.out],by go_num,dg,U.out⟩
    grind[intOf]
   ·have zg:¬(k:Int)<(n:Int):=dg
    obtain rfl:n=k:=dg;have Z:Hid (GD w wr (Sq z n n) n a b c f d):=.inr ⟨h1,W,z,g,rfl,by rw[J.out];exact A.out.1.congr λj X=>dg,M.out,A.out.2⟩;clear A;go_wp2;go_ret;exact⟨_,rfl,Z.out,λzh o n' c' e=>by simp_all⟩
theorem rCl_any(x:Int)(w:World):
 Cw 157 #[Iq x] w λe w'=>e=Rw (Iq (cl x))/\w'=w:=by
 obtain⟨y,hy⟩:=ad (cl x);rw[hy];unfold cl at hy;by_cases h1:x<0;·rw[if_pos h1]at hy;subst hy;go_enter func157,ntmps157;go_wp2;go_ret;simp_all
 ·rw[if_neg h1]at hy;by_cases a:100000<x;·rw[if_pos a]at hy;subst hy;go_enter func157,ntmps157;go_wp2;go_ret;simp_all
  ·rw[if_neg a]at hy;subst hy;go_enter func157,ntmps157;go_wp2;go_ret;simp_all
theorem ud(a d:Int)(n:Nat)(j:n<=1)(w:World):
 Cw 201 #[Iq a,Iq d,Iq n] w λe w'=>e=Rw (Iq (cl a))/\w'=w:=by
 have f:=qH<|λw=>rCl_any a w;obtain⟨g,c⟩:=ad (cl a);have b:=dq a;rw[c]at f b⊢;have h:=b.1;have h1:¬(1:Int)<(n:Int):=dg
 have i:¬g<0:=dg;clear b c;go_enter func201,ntmps201;go_wp2_with(go_at_call 157;refine(f _).mono ?_;rintro e k ⟨rfl,rfl⟩);go_ret;simp_all
theorem FO(c f:Int)(n:Nat)(B:0<n)(K:n<=200)(w:World):
 Cw 201 #[Iq c,Iq f,Iq n] w λe w'=>e=Rw (Iq (rm c f n))/\w'=w:=by
 by_cases C:n<=1
 ·obtain rfl:n=1:=dg
  have:=ud c f 1 dg w;grind[rm,cl,dq]
 ·have s:=qH<|λw=>rCl_any c w;have t:=qH<|λw=>rCl_any f w;obtain⟨q,a⟩:=ad (rm c f n);rw[a];unfold rm at a;obtain⟨p,l⟩:=ad (cl c);obtain⟨h,i⟩:=ad (cl f);have b:=dq c;have d:=dq f;rw[l]at s b a;rw[i]at t d a;have I:=b.1;have J:=b.2;have d1:=d.1;have d2:=d.2;have D:(1:Int)<(n:Int):=dg
  have o:=qH<|a;clear b l d i a;go_enter func201,ntmps201;go_wp2_with(go_at_call 157;first|(refine(s _).mono ?_;rintro e H ⟨rfl,rfl⟩)|(refine(t _).mono ?_;rintro e H ⟨rfl,rfl⟩));go_loop[7,9] (λr k=>∃(j:Nat) (x:Int),r=Iq x/\k=Iq j/\1<=j/\j<=n/\-100000<=x/\x<=100000/\Hid (x=p-h*((j:Int)-1))) (λ_ k=>n-(intOf k).toNat);case atStart=>exact⟨1,p,rfl,rfl,dg,dg,dg,dg,by simp[Hid]⟩
  case round=>
   obtain⟨j,x,rfl,rfl,y,z,E,F,g⟩:=hrel;by_cases A:j<n
   ·have m:(j:Int)<(n:Int):=dg
    by_cases u:0<x
    ·have v:Hid (x-h=p-h*(((j+1:Nat):Int)-1)):=by show _=_;rw[g.out,show(((j+1:Nat):Int)-1)=((j:Int)-1)+1 by omega,Int.mul_add,Int.mul_one];omega
     clear g;go_wp2;grind[intOf]
    ·have a:q=0:=by rw[<-o.out];have e:=g.out;have:h*((j:Int)-1)<=h*((n:Int)-1):=Kk dg d1;omega
     subst a;clear g;by_cases G:x<0;·go_wp2;go_ret;simp_all
     ·obtain rfl:x=0:=dg
      go_wp2;go_ret;simp_all
   ·have m:¬(j:Int)<(n:Int):=dg
    obtain rfl:n=j:=dg;by_cases G:x<0
    ·have a:q=0:=by rw[<-o.out,<-g.out];omega
     subst a;clear g;go_wp2;go_ret;simp_all
    ·have a:q=x:=by rw[<-o.out,<-g.out];omega
     subst a;clear g;go_wp2;go_ret;simp_all
theorem AP w a b c:Bt w (((w.alloc a).alloc b).alloc c):=(((af _ _).alloc (ae _) _).alloc rn _).alloc (by simp;omega) _
theorem rHeld_any(a b c:Int)(w:World):
 Cw 200 #[.agg #[Iq a,Iq b,Iq c]] w λe w'=>e=Rw (.agg #[Iq (cl a),Iq (dF a b),Iq (cl c)])/\Bt w w':=by
 have f:=qH<|rCl_any;have i:=dq a;have l:=i.1;have m:=i.2;have g:Hid (∀y,y=dF a b->Ending.returned (.agg #[Iq (cl a),Iq y,Iq (cl c)])=Rw (.agg #[Iq (cl a),Iq (dF a b),Iq (cl c)])):=λy h=>by rw[h]
 clear i;by_cases h1:b<0
 ·have d:Hid (100000=dF a b):=by show _=_;unfold dF;rw[if_pos h1]
  have n:¬0<=b:=dg;have j:¬100000<cl a:=dg;go_enter func200,ntmps200;go_wp2_with(go_at_call 157;refine(f _ _).mono ?_;rintro e k ⟨rfl,rfl⟩);exact bodyPost_ret (v:=.agg #[Iq (cl a),Iq 100000,Iq (cl c)]) (by simp[results,Tryz.results200,go_sem]) rfl ⟨g _ d,AP _ _ _ _⟩
 ·have n:0<=b:=dg
  by_cases j:cl b<cl a
  ·have d:Hid (cl a=dF a b):=by show _=_;unfold dF;rw[if_neg h1,if_pos j]
   go_enter func200,ntmps200;go_wp2_with(go_at_call 157;refine(f _ _).mono ?_;rintro e k ⟨rfl,rfl⟩);exact bodyPost_ret (v:=.agg #[Iq (cl a),Iq (cl a),Iq (cl c)]) (by simp[results,Tryz.results200,go_sem]) rfl ⟨g _ d,AP _ _ _ _⟩
  ·have d:Hid (cl b=dF a b):=by show _=_;unfold dF;rw[if_neg h1,if_neg j]
   go_enter func200,ntmps200;go_wp2_with(go_at_call 157;refine(f _ _).mono ?_;rintro e k ⟨rfl,rfl⟩);exact bodyPost_ret (v:=.agg #[Iq (cl a),Iq (cl b),Iq (cl c)]) (by simp[results,Tryz.results200,go_sem]) rfl ⟨g _ d,AP _ _ _ _⟩
theorem fH{x y B C:Int}(b:0<=x)(d:x<=B)(a:0<=y)(hy:y<=C)(c:0<=B):0<=x*y/\x*y<=B*C:=
 ⟨gx b a,kP d hy a c⟩
theorem BB{a b c p q}(f:0<=a)(g:0<=b)(e:b<=100000)(h:0<=c)(hp:0<=p)(d:0<=q)(i:q<=20000000):0<=eR a b c p q/\eR a b c p q<=2000000000000:=by have h1:=fH g e d i dg;have j:=gx f d;have k:=gx hp h;grind[eR]
theorem rC(a b c p q:Int)(w:World)(l:0<=a/\a<=100000)(m:0<=b/\b<=100000)(n:0<=c/\c<=100000)(hp:0<=p/\p<=20000000)(i:0<=q/\q<=20000000):
 Cw 204 #[.agg #[Iq a,Iq b,Iq c],Iq p,Iq q] w λe w'=>e=Rw (Iq (eR a b c p q))/\Bt w w':=by
 have h1:=fH l.1 l.2 i.1 i.2 dg;have j:=fH m.1 m.2 i.1 i.2 dg;have k:=fH hp.1 hp.2 n.1 n.2 dg;obtain⟨z,d⟩:=ad (eR a b c p q);rw[d];unfold eR at d;obtain⟨o,f⟩:=ad (a*q);obtain⟨r,g⟩:=ad (b*q);obtain⟨s,h⟩:=ad (p*c);rw[f,g,h]at d;rw[f]at h1;rw[g]at j;rw[h]at k;have t:=h1.1;have u:=h1.2;have v:=j.1;have x:=j.2;have y:=k.1;have A:=k.2;clear h1 j k l m n hp i;by_cases c1:r<o+s;·rw[if_pos c1]at d;subst d;go_enter func204,ntmps204;go_wp2;go_ret;exact⟨rfl,(af _ _).alloc (ae _) _⟩
 ·rw[if_neg c1]at d;subst d;go_enter func204,ntmps204;go_wp2;go_ret;exact⟨rfl,(af _ _).alloc (ae _) _⟩
theorem B_(n t off B:Nat)(Mn Mx Wt:Nat->Int)(p q:Int)(w:World)(h:dS w t off n Mn Mx Wt)(Y:n<=200)(J:lA Mn Mx Wt)(hp:0<=p/\p<=20000000)(F:0<=q/\q<=20000000):
 Cw 232 #[.slice (some (aj t off)) n B,Iq p,Iq q] w λe w'=>e=Rw (Iq (jd n Mn Mx Wt p q))/\Bt w w':=by
 have Q:=qH<|h;have P:=qH<|J;have m:Hid ((0<=p/\p<=20000000)/\(0<=q/\q<=20000000)):=⟨hp,F⟩;have N:=qH<|λa b c w S T U=>rC a b c p q w S T U hp F;clear h J hp F;go_enter func232,ntmps232;go_wp2;go_loopw[7,8] (λs i wr=>∃(k:Nat) (x:Int),s=Iq x/\i=Iq k/\k<=n/\0<=x/\x<=(k:Int)*2000000000000/\Hid (x=jd k Mn Mx Wt p q)/\Bt w wr) (λ_ i _=>n-(intOf i).toNat);case atStart=>exact⟨0,0,rfl,rfl,aR _,dg,dg,rfl,af _ _⟩
 case round=>
  obtain⟨k,x,rfl,rfl,X,x0,x1,u,d⟩:=hrel;by_cases E:k<n
  ·have K:(k:Int)<(n:Int):=dg
   have r:=Q.below d;obtain⟨R,c1,c2⟩:=r.2 k E;have Z:=r.1;have L:=P k;obtain⟨y,f⟩:=ad (Mn k);obtain⟨z,g⟩:=ad (Mx k);obtain⟨A,j⟩:=ad (Wt k);rw[f]at R;rw[g]at c1;rw[j]at c2;rw[f,g,j]at L;obtain⟨d1,d2,d3,d4,d5⟩:=L;have C:=N y z A wr ⟨d1,dg⟩ ⟨dg,d3⟩ ⟨d4,d5⟩;obtain⟨M,o⟩:=ad (eR y z A p q);have l:=BB (a:=y) (b:=z) (c:=A) (p:=p) (q:=q) d1 dg d3 d4 m.1.1 m.2.1 m.2.2;rw[o]at C l;have H:Hid _:=C;have v:Hid (x+M=jd (k+1) Mn Mx Wt p q):=by show _=_;unfold jd;rw[jM,dm,f,g,j,o];have:=u.out;unfold jd at this;omega
   have l1:=l.1;have l2:=l.2;have W:((k+1:Nat):Int)*2000000000000=(k:Int)*2000000000000+2000000000000:=dg;have G:=d.size;clear r f g j C o l u;go_wp2_with fail;refine ag H ?_;rintro e w5 ⟨rfl,I⟩;have D:=d.trans (I.mono G);clear I d H;go_wp2;go_roundw;case rel=>exact⟨k+1,x+M,rfl,by go_num,dg,dg,dg,v,D⟩
   grind[intOf]
  ·have V:¬(k:Int)<(n:Int):=dg
   obtain rfl:n=k:=dg;have O:Hid (Ending.returned (Iq x)=Rw (Iq (jd n Mn Mx Wt p q))):=by show _=_;rw[u.out]
   clear u;go_wp2;go_ret;exact⟨O,d⟩
theorem FM(n z off I:Nat)(Mn Mx Wt:Nat->Int)(p q:Int)(w:World)(h:dS w z off n Mn Mx Wt)(hn:n<=200)(hM:lA Mn Mx Wt)(hp:0<=p/\p<=100000)(K:0<=q/\q<=100000):
 Cw 231 #[.slice (some (aj z off)) n I,Iq p,Iq q] w λe w'=>e=Rw (.tuple #[Iq (sN n Mn Mx Wt p q),Iq (sM n Mn Mx Wt p q)])/\Bt w w':=by
 have W:=qH<|h;have V:=qH<|hM;have p0:=hp.1;have p1:=hp.2;have S:=K.1;have T:=K.2;clear h hM hp K;go_enter func231,ntmps231;go_wp2;go_loopw[8,9,10] (λs t i wr=>∃(k:Nat) (x y:Int),s=Iq x/\t=Iq y/\i=Iq k/\k<=n/\0<=x/\x<=(k:Int)*100000/\0<=y/\y<=(k:Int)*100000/\Hid (x=sN k Mn Mx Wt p q)/\Hid (y=sM k Mn Mx Wt p q)/\Bt w wr) (λ_ _ i _=>n-(intOf i).toNat);case atStart=>exact⟨0,0,0,rfl,rfl,rfl,aR _,dg,dg,dg,dg,rfl,rfl,af _ _⟩
 case round=>
  obtain⟨k,x,y,rfl,rfl,rfl,hk,x0,x1,y0,y1,F,G,c⟩:=hrel;by_cases J:k<n
  ·have P:(k:Int)<(n:Int):=dg
   have u:=W.below c;obtain⟨X,c1,c2⟩:=u.2 k J;have hz:=u.1;have Q:=V k;obtain⟨g,j⟩:=ad (Mn k);obtain⟨r,l⟩:=ad (Mx k);obtain⟨o,m⟩:=ad (Wt k);rw[j]at X;rw[l]at c1;rw[m]at c2;rw[j,l,m]at Q;obtain⟨d1,d2,d3,d4,d5⟩:=Q;have Z:((k+1:Nat):Int)*100000=(k:Int)*100000+100000:=dg;have v:=c.size;have a:sN (k+1) Mn Mx Wt p q=x+(if oA g r o p q then o else 0):=by unfold sN;rw[jM,dm,j,l,m];have:=F.out;unfold sN at this;omega
   have b:sM (k+1) Mn Mx Wt p q=y+(if oA g r o p q then g else if 0<o then r else g):=by unfold sM;rw[jM,dm,j,l,m];have:=G.out;unfold sM at this;omega
   have h1:=fH d1 (show g<=100000 by omega) S T dg;have N:=fH (show 0<=r by omega) d3 S T dg;have O:=fH p0 p1 d4 d5 dg;obtain⟨L,A⟩:=ad (g*q);obtain⟨M,B⟩:=ad (r*q);obtain⟨R,C⟩:=ad (p*o);have D:oA g r o p q=decide (0<o/\L+R<M):=by unfold oA;rw[A,B,C]
   rw[A]at h1;rw[B]at N;rw[C]at O;obtain⟨r1,r2⟩:=h1;obtain⟨r3,r4⟩:=N;obtain⟨r5,r6⟩:=O;rw[D]at a b;clear D u j l m F G;by_cases E:0<o
   ·by_cases H:L+R<M
    ·have d:Hid (x+o=sN (k+1) Mn Mx Wt p q):=by show _=_;rw[a];simp[E,H]
     have f:Hid (y+g=sM (k+1) Mn Mx Wt p q):=by show _=_;rw[b];simp[E,H]
     clear a b;go_wp2;go_roundw;case rel=>exact⟨k+1,x+o,y+g,rfl,rfl,by go_num,dg,dg,dg,dg,dg,d,f,c.alloc v _⟩
     grind[intOf]
    ·have d:Hid (x=sN (k+1) Mn Mx Wt p q):=by show _=_;rw[a];simp[H]
     have f:Hid (y+r=sM (k+1) Mn Mx Wt p q):=by show _=_;rw[b];simp[E,H]
     clear a b;go_wp2;go_roundw;case rel=>exact⟨k+1,x,y+r,rfl,rfl,by go_num,dg,dg,dg,dg,dg,d,f,c.alloc v _⟩
     grind[intOf]
   ·have d:Hid (x=sN (k+1) Mn Mx Wt p q):=by show _=_;rw[a];simp[E]
    have f:Hid (y+g=sM (k+1) Mn Mx Wt p q):=by show _=_;rw[b];simp[E]
    clear a b;go_wp2;go_roundw;case rel=>exact⟨k+1,x,y+g,rfl,rfl,by go_num,dg,dg,dg,dg,dg,d,f,c.alloc v _⟩
    grind[intOf]
  ·have Y:¬(k:Int)<(n:Int):=dg
   obtain rfl:n=k:=dg;have U:Hid (Ending.returned (.tuple #[Iq x,Iq y])=Rw (.tuple #[Iq (sN n Mn Mx Wt p q),Iq (sM n Mn Mx Wt p q)])):=by show _=_;rw[F.out,G.out]
   clear F G;go_wp2;go_ret2;exact⟨U,c⟩
theorem op_bds{n}{Mn Mx Wt}(a:lA Mn Mx Wt)(f:n<=200)p q:0<=sN n Mn Mx Wt p q/\sN n Mn Mx Wt p q<=20000000/\0<=sM n Mn Mx Wt p q/\sM n Mn Mx Wt p q<=20000000:=by
 have b:0<=sN n Mn Mx Wt p q:=cm λj _=>by have:=a j;omega
 have c:sN n Mn Mx Wt p q<=((List.range n).length:Int)*100000:=eE λj _=>by have:=a j;omega
 have d:0<=sM n Mn Mx Wt p q:=cm λj _=>by have:=a j;omega
 have e:sM n Mn Mx Wt p q<=((List.range n).length:Int)*100000:=eE λj _=>by have:=a j;omega
 grind
def tj(n:Nat)(Mn Mx Wt:Nat->Int)(r:Int)(i:Nat):Prop:=(0<i->¬gT n Mn Mx Wt r 0 1)/\∀j,j+1<i->0<Wt j->¬gT n Mn Mx Wt r (Mx j-Mn j) (Wt j)
def C5(n:Nat)(Mn Mx Wt:Nat->Int)(r p q:Int):Prop:=(p=0/\q=0/\tj n Mn Mx Wt r (n+1))\/(0<q/\q<=20000000/\0<=p/\p<=100000/\jd n Mn Mx Wt p q=r*q)
theorem xj{n}{Mn Mx Wt}{r p q w b}(c:sN n Mn Mx Wt p q=w)(a:sM n Mn Mx Wt p q=b):gT n Mn Mx Wt r p q↔(w≠0/\0<=r-b/\p*w<=(r-b)*q/\jd n Mn Mx Wt (r-b) w=r*w):=by grind[gT]
theorem yx(n x off O:Nat)(Mn Mx Wt:Nat->Int)(r:Int)(w:World)(h:dS w x off n Mn Mx Wt)(hn:n<=200)(hM:lA Mn Mx Wt)(hr:0<=r/\r<=100000):
 Cw 203 #[.slice (some (aj x off)) n O,Iq r] w λe w'=>∃p q,e=Rw (.tuple #[Iq p,Iq q])/\C5 n Mn Mx Wt r p q/\Bt w w':=by
 have Z:=qH<|h;have HM:=qH<|hM;have r0:=hr.1;have r1:=hr.2;have CO:=qH<|λp q w h hp hq=>FM n x off O Mn Mx Wt p q w h hn hM hp hq;have CT:=qH<|λp q w h hp hq=>B_ n x off O Mn Mx Wt p q w h hn hM hp hq;have W:=qH<|op_bds hM hn;clear h hM hr;go_enter func203,ntmps203;go_wp2;go_loopw[6] (λi wr=>∃k:Nat,i=Iq ((k:Int)-1)/\k<=n+1/\Hid (tj n Mn Mx Wt r k)/\Bt w wr) (λi _=>((n:Int)-intOf i).toNat);case atStart=>exact⟨0,rfl,dg,⟨λh=>dg,λj hj=>dg⟩,af _ _⟩
 case round=>
  obtain⟨k,rfl,hk,f,o⟩:=hrel;match k with
  |0=>
   have HBN:Hid (¬gT n Mn Mx Wt r 0 1->tj n Mn Mx Wt r (0+1)):=λh=>⟨λ_=>h,λj hj=>dg⟩;have N:=Z.below o;have A:=qH<|o;have zx:((0:Nat):Int)-1<(n:Int):=dg
   clear o f;go_wp2_with fail;have M:=CO 0 1 wr N ⟨dg,dg⟩ ⟨dg,dg⟩;have E:=W 0 1;obtain⟨s,how⟩:=ad (sN n Mn Mx Wt 0 1);obtain⟨ob,c⟩:=ad (sM n Mn Mx Wt 0 1);rw[how,c]at M E;have B:=qH<|M;have b:=xj (r:=r) how c;obtain⟨V,y,zo,zq⟩:=E;clear M how c;refine ag B ?_;rintro e w5 ⟨rfl,b5⟩;have a:=A.trans (b5.mono A.size);have S:=a.size;clear b5 B;by_cases P:s=0
   ·have HN:=qH<|HBN λd=>(b.1 d).1 P;subst P;clear b HBN;go_wp2;go_roundw;case rel=>exact⟨0+1,by go_num,dg,HN,a⟩
    simp_all[intOf]
   ·have zl:(s==0)=false:=by simpa using P
    obtain⟨m,R⟩:=ad (r-ob);rw[R]at b;have zj:m<=100000:=dg;have zi:-20000000<=m:=dg;by_cases ca:m<0
    ·have HN:=qH<|HBN λd=>by have:=(b.1 d).2.1;omega
     clear b HBN;go_wp2;go_roundw;case rel=>exact⟨0+1,by go_num,dg,HN,a⟩
     simp_all[intOf]
    ·have K:=b;clear b;by_cases cx:m*1<0*s;·exact absurd cx dg
     ·have Q:=CT m s w5 (Z.below a) ⟨dg,dg⟩ ⟨dg,dg⟩;obtain⟨tt,u⟩:=ad (jd n Mn Mx Wt m s);obtain⟨rw,F⟩:=ad (r*s);have G:=fH r0 r1 V y dg;rw[F]at G;obtain⟨zr,zt⟩:=G;rw[u]at Q;have Y:=qH<|Q;have l:=qH<|u;have g:=qH<|F;have HN:=qH<|HBN.out;have t:=qH<|λd=>(K.1 d).2.2.2;clear K Q u HBN;go_wp2_with fail;refine ag Y ?_;rintro e w6 ⟨rfl,b6⟩;have D:=a.trans (b6.mono S);clear b6 Y;by_cases H:tt=rw;·have X:Hid (C5 n Mn Mx Wt r m s):=.inr ⟨dg,y,dg,dg,by rw[l.out,g.out];exact H⟩;subst H;clear a l g t HN;go_wp2;go_ret2;exact⟨m,s,rfl,X,D⟩
      ·have L:=qH<|HN λd=>H (by have:=t d;rw[l.out,g.out]at this;exact this);have zk:(tt==rw)=false:=by simpa using H
       clear a l g t HN;go_wp2;go_roundw;case rel=>exact⟨0+1,by go_num,dg,L,D⟩
       case measure=>first|(simp[intOf];done)|(simp[intOf];omega)
  |j+1=>
   by_cases zn:j<n
   ·have zm:((j+1:Nat):Int)-1=(j:Int):=dg
    rw[zm];have za:(j:Int)<(n:Int):=dg;have T:=Z.below o;obtain⟨c0,c1,c2⟩:=T.2 j zn;have hz:=T.1;have hm:=HM j;obtain⟨a1,I⟩:=ad (Mn j);obtain⟨a2,J⟩:=ad (Mx j);obtain⟨v,C⟩:=ad (Wt j);obtain⟨z,zb⟩:=ad (a2-a1);rw[I]at c0;rw[J]at c1;rw[C]at c2;rw[I,J,C]at hm;obtain⟨d1,d2,d3,d4,d5⟩:=hm;have HBN:Hid (¬(0<v/\gT n Mn Mx Wt r z v)->tj n Mn Mx Wt r (j+1+1)):=λh=>by
     refine⟨λ_=>f.1 dg,λi hi U=>?_⟩;by_cases e:i=j;·subst e;rw[I,J,C,zb];rw[C]at U;exact λd=>h ⟨U,d⟩
     ·exact f.2 i dg U
    clear I J C T f;by_cases c3:v=0
    ·have HN:=qH<|HBN dg;subst c3;clear HBN;go_wp2;go_roundw;case rel=>exact⟨j+1+1,by go_num,dg,HN,o⟩
     case measure=>first|(simp[intOf];done)|(simp[intOf];omega)
    ·have zw:(v==0)=false:=by simpa using c3
     have HBN2:Hid (¬gT n Mn Mx Wt r z v->tj n Mn Mx Wt r (j+1+1)):=λh=>HBN λd=>h d.2;clear HBN;have zA:IntKind.i64.wrap z=z:=IntWalk.i64_in _ ⟨dg,dg⟩;have N:dS wr.drew x off n Mn Mx Wt:=Z.below (below_drewN o 1);have A:Hid (Bt w wr.drew):=below_drewN o 1;have zv:wr.drew.cell? (aj x (off+j*3+2))=some (Iq v):=c2;have zy:0<=z:=dg;have zz:z<=100000:=dg;have zu:1<=v:=dg;clear o;go_wp2_with fail;go_big_region;go_wp2_with fail;clear zb;have M:=CO z v wr.drew N ⟨dg,dg⟩ ⟨dg,dg⟩;have E:=W z v;obtain⟨s,how⟩:=ad (sN n Mn Mx Wt z v);obtain⟨ob,c⟩:=ad (sM n Mn Mx Wt z v);rw[how,c]at M E;have B:=qH<|M;have b:=xj (r:=r) how c;obtain⟨V,y,zo,zq⟩:=E;clear M how c;refine ag B ?_;rintro e w5 ⟨rfl,b5⟩;have a:=A.trans (b5.mono A.size);have S:=a.size;clear b5 B;by_cases P:s=0
     ·have HN:=qH<|HBN2 λd=>(b.1 d).1 P;subst P;clear b HBN2;go_wp2;go_roundw;case rel=>exact⟨j+1+1,by go_num,dg,HN,a⟩
      case measure=>first|(simp[intOf];done)|(simp[intOf];omega)
     ·have zl:(s==0)=false:=by simpa using P
      obtain⟨m,R⟩:=ad (r-ob);rw[R]at b;have zj:m<=100000:=dg;have zi:-20000000<=m:=dg;by_cases ca:m<0
      ·have HN:=qH<|HBN2 λd=>by have:=(b.1 d).2.1;omega
       clear b HBN2;go_wp2;go_roundw;case rel=>exact⟨j+1+1,by go_num,dg,HN,a⟩
       case measure=>first|(simp[intOf];done)|(simp[intOf];omega)
      ·have K:=b;clear b;obtain⟨x1,zc⟩:=ad (m*v);obtain⟨x2,ze⟩:=ad (z*s);rw[zc,ze]at K;have zg:=fH (show 0<=m by omega) (show m<=100000 by omega) (show 0<=v by omega) (show v<=100000 by omega) dg;have zh:=fH (show 0<=z by omega) (show z<=100000 by omega) (show 0<=s by omega) y dg;rw[zc]at zg;rw[ze]at zh;obtain⟨zB,zC⟩:=zg;obtain⟨zD,zE⟩:=zh;by_cases cx:x1<x2
       ·have HN:=qH<|HBN2 λd=>by have:=(K.1 d).2.2.1;omega
        clear K HBN2;go_wp2;go_roundw;case rel=>exact⟨j+1+1,by go_num,dg,HN,a⟩
        case measure=>first|(simp[intOf];done)|(simp[intOf];omega)
       ·have Q:=CT m s w5 (Z.below a) ⟨dg,dg⟩ ⟨dg,dg⟩;obtain⟨tt,u⟩:=ad (jd n Mn Mx Wt m s);obtain⟨rw,F⟩:=ad (r*s);have G:=fH r0 r1 V y dg;rw[F]at G;obtain⟨zr,zt⟩:=G;rw[u]at Q;have Y:=qH<|Q;have l:=qH<|u;have g:=qH<|F;have HN:=qH<|HBN2.out;have t:=qH<|λd=>(K.1 d).2.2.2;clear K Q u HBN2;go_wp2_with fail;refine ag Y ?_;rintro e w6 ⟨rfl,b6⟩;have D:=a.trans (b6.mono S);clear b6 Y;by_cases H:tt=rw;·have X:Hid (C5 n Mn Mx Wt r m s):=.inr ⟨dg,y,dg,dg,by rw[l.out,g.out];exact H⟩;subst H;clear a l g t HN;go_wp2;go_ret2;exact⟨m,s,rfl,X,D⟩
        ·have L:=qH<|HN λd=>H (by have:=t d;rw[l.out,g.out]at this;exact this);have zk:(tt==rw)=false:=by simpa using H
         clear a l g t HN;go_wp2;go_roundw;case rel=>exact⟨j+1+1,by go_num,dg,L,D⟩
         case measure=>first|(simp[intOf];done)|(simp[intOf];omega)
   ·obtain rfl:n=j:=dg
    have za:¬((n+1:Nat):Int)-1<(n:Int):=dg;have X:Hid (C5 n Mn Mx Wt r 0 0):=.inl ⟨rfl,rfl,f⟩;clear f;go_wp2;go_ret2;exact⟨0,0,rfl,X,o⟩
theorem GJ.set{w wr}{c a n k}{b e f}(h:GJ w wr c a n k b e f)(i:k<n)(d:a≠c)(g:w.heap.size<=a):GJ w (wr.setCell (aj a (0+k)) (Iq (b k))) c a n (k+1) b e f:=by refine⟨(h.len.set k (b k) i).congr λj l=>?_,h.want.other _ _ _ d,h.bel.setCell g _⟩;grind[nQ]
theorem JT g n c(a:c<n)v:aq (nQ g c v) (List.range n)=aq g (List.range n)-g c+v:=by
 have e:aq (nQ g c v) (List.range n)=aq g (List.range n)+aq (λj=>if j∈[c]then v-g j else 0) (List.range n):=by
  rw[<-eW];refine bg λj _=>?_;unfold nQ;by_cases e:j=c;·grind
  ·simp[e]
 rw[e,nD rn (λj b=>rd)];rw[bE,nE];omega
structure wk(n:Nat)(mn:Nat->Int)(r:Int)(c:Nat)(s:Int)(g:Nat->Int):Prop where
 ahead:∀j,j<c->g j=mn j
 bd:∀j,j<n->0<=g j/\g j<=mn j
 sum:s=aq g (List.range n)
 ge:r<=s
 zero:r<s->∀j,c<=j->j<n->g j=0
 behind:∀i k,i<k->k<n->g i<mn i->g k=0
theorem wk.next{n}{m}{r}{c}{s}{g}(h:wk n m r (c+1) s g)(f:c<n)(d:r<s)y(hy:y=min (s-r) (g c)):wk n m r c (s-y) (nQ g c (g c-y)):=by
 have v:=h.bd c f;have a:∀j,j≠c->nQ g c (g c-y) j=g j:=λj e=>by grind[nQ]
 have p:nQ g c (g c-y) c=g c-y:=by unfold nQ;rw[if_pos rfl]
 refine⟨λj l=>?_,λj l=>?_,?_,dg,λb j h1 o=>?_,λi k q t b=>?_⟩;·rw[a j dg];exact h.ahead j dg
 ·by_cases e:j=c;·grind
  ·rw[a j e];exact h.bd j l
 ·rw[JT g n c f,<-h.sum];omega
 ·by_cases e:j=c;·grind
  ·rw[a j e];exact h.zero d j dg o
 ·by_cases e:k=c;·subst e;rw[a i dg,h.ahead i dg]at b;omega
  ·rw[a k e];by_cases u:k<c;·rw[a i dg,h.ahead i dg]at b;omega
   ·exact h.zero d k dg t
theorem wk.back{n}{b}{r}{c}{s}{g}(h:wk n b r c s g)(i:0<=r)(d:c=0\/s<=r):pq n b r g:=by
 refine⟨h.bd,?_,h.behind⟩;by_cases e:r<s
 ·rcases d with a|a
  ·subst a;have k:aq g (List.range n)<=0:=by
    have:aq g (List.range n)<=((List.range n).length:Int)*0:=eE λj f=>by rw[h.zero e j dg rd];omega
    omega
   have:=h.sum;omega
  ·omega
 ·have:=h.sum;have:=h.ge;omega
theorem rShrunk_any(n l T:Nat)(Mn Mx Wt:Nat->Int)(r:Int)(w:World)(h:dS w l 0 n Mn Mx Wt)(hn:n<=200)(hM:lA Mn Mx Wt)(hr:0<=r/\r<=100000)(f:r<aq Mn (List.range n)):
 Calls prog 202 #[Sq l n T,Iq r] w λe w'=>e=.returned (Sq w.heap.size n n)/\(∃g,cG w' w.heap.size 0 n g/\pq n Mn r g)/\Below w.heap.size w w':=by
 have HW:=qH<|h;have M:=qH<|hM;have L:=qH<|f;have r0:=hr.1;have r1:=hr.2;have zr:=h.1;have m:=run_make_row' (P:=prog) 55 3 (Iq 0) 8 underlying55 gn rfl .i64 .i64 n dg dg;clear h hM hr f;go_enter func202,ntmps202;go_wp2;have S0:Hid (GJ w (w.alloc (.cells (madeCells #[Iq 0] n) 3)) l w.heap.size n 0 Mn Mx Wt):=by
  have S:Below w.heap.size w (w.alloc (.cells (madeCells #[Iq 0] n) 3)):=(af _ w).alloc (ae _) _;refine⟨⟨rn,λj hj=>⟨?_,?_⟩⟩,HW.below S,S⟩;·rw[World.cell?_alloc_at _ _ _ _ rfl];simp[madeCells,hj,uB]
  ·simp_all
 obtain⟨a,hlb⟩:=ad w.heap.size;have Q:Hid (∀k,aq Mn (List.range (k+1))=aq Mn (List.range k)+Mn k):=λk=>by rw[jM,dm]
 have X:w.heap.size<=a:=dg;have zi:l<a:=dg;have F:=qH<|hlb;rw[hlb]at S0⊢;clear m HW;go_loopw[6,7] (λs i wr=>∃(k:Nat) (x:Int),s=Iq x/\i=Iq k/\k<=n/\0<=x/\x<=(k:Int)*100000/\Hid (x=aq Mn (List.range k))/\Hid (GJ w wr l a n k Mn Mx Wt)) (λ_ i _=>n-(intOf i).toNat);case atStart=>exact⟨0,0,rfl,rfl,aR _,dg,dg,rfl,S0⟩
 case round=>
  obtain⟨k,x,rfl,rfl,hk,x0,x1,G,J⟩:=hrel;by_cases f:k<n
  ·have zh:(k:Int)<(n:Int):=dg
   have o:=J.out;have D:=Q k;have H:=(o.want.2 k f).1;rw[aZ]at H;obtain⟨K,B⟩:=ad (Mn k);have m:=M k;rw[B]at D H m;have zt:=o.want.1;have zu:=o.len.1;have U:wr.cell? (aj a k)=some (Iq 0):=by have:=(o.len.2 k f).1;dsimp only at this;rw[if_neg dg,aZ]at this;exact this
   have V:wr.frozen? (aj a k)=false:=by have:=(o.len.2 k f).2;rw[aZ]at this;exact this
   have R:Hid (x+K=aq Mn (List.range (k+1))):=by show _=_;rw[D,G.out]
   have HN:Hid (GJ w (wr.setCell (aj a k) (Iq K)) l a n (k+1) Mn Mx Wt):=by have:=o.set f dg dg;rw[B,aZ]at this;exact this
   have zo:=m.1;have zq:K<=100000:=dg;have zm:((k+1:Nat):Int)*100000=(k:Int)*100000+100000:=dg;clear o D B m G J;go_wp2;go_roundw;case rel=>exact⟨k+1,x+K,rfl,by go_num,dg,dg,dg,R,HN⟩
   grind[intOf]
  ·have zk:¬(k:Int)<(n:Int):=dg
   obtain rfl:n=k:=dg;have o:=J.out;have v:=o.len.congr λj hj=>by rw[if_pos hj]
   have I0:Hid (wk n Mn r n x Mn):=⟨λ_ _=>rfl,λj _=>by have:=M j;omega,G,by rw[G.out];exact D' L,λ_ j h1 W=>dg,λi k _ _ h=>dg⟩;have R0:Hid (cG wr a 0 n Mn/\Below w.heap.size w wr):=⟨v,o.bel⟩;clear o v G J;go_wp2;go_loopw[6,8] (λs i wq=>∃(c:Nat) (x:Int) (g:Nat->Int),s=Iq x/\i=Iq ((c:Int)-1)/\c<=n/\0<=x/\x<=20000000/\Hid (wk n Mn r c x g)/\Hid (cG wq a 0 n g/\Below w.heap.size w wq)) (λ_ i _=>(intOf i+1).toNat);case atStart=>grind
   case round=>
    obtain⟨c,s,g,rfl,rfl,hc,s0,s1,E,z⟩:=hrel;by_cases za:0<c/\r<s
    ·obtain⟨Y,zc⟩:=za;obtain⟨d,rfl⟩:∃d,c=d+1:=⟨c-1,dg⟩;have t:d<n:=dg
     have I:((d+1:Nat):Int)-1=(d:Int):=dg;rw[I];have zg:(d:Int)<(n:Int):=dg;have zj:(0:Int)<=(d:Int):=dg;have b:=(z.1.2 d t);rw[aZ]at b;have C:=E.bd d t;have zb:=M d;obtain⟨p,u⟩:=ad (g d);rw[u]at b C;obtain⟨U,V⟩:=b;have S:=C.1;have b2:p<=100000:=dg;obtain⟨sr,ze⟩:=ad (s-r);have q:Hid (∀y,y=min sr p->wk n Mn r d (s-y) (nQ g d (p-y))/\cG (wr.setCell (aj a d) (Iq (p-y))) a 0 n (nQ g d (p-y))/\Below w.heap.size w (wr.setCell (aj a d) (Iq (p-y)))):=λy hy=>by have h1:=E.next t zc y (by rw[ze,u];exact hy);rw[u]at h1;have W:=z.1.set d (p-y) t;rw[aZ]at W;exact⟨h1,W,z.2.setCell X _⟩
     clear C zb u E z I;by_cases zl:p<sr
     ·have A:=q p dg;have N:=qH<|A.1;have O:Hid (cG (wr.setCell (aj a d) (Iq 0)) a 0 n (nQ g d (p-p))/\Below w.heap.size w (wr.setCell (aj a d) (Iq 0))):=by have:=A.2;rw[Int.sub_self]at this⊢;exact this
      clear A q;go_wp2;grind[intOf]
     ·have A:=q sr dg;have N:=qH<|A.1;have O:=qH<|A.2;clear A q;go_wp2;grind[intOf]
    ·have HF:Hid (∃g,cG wr a 0 n g/\pq n Mn r g):=⟨g,z.1,E.back r0 dg⟩;have HB:=qH<|z.2;clear E z;by_cases Y:0<c
     ·have zn:¬r<s:=dg
      have Z:(0:Int)<=(c:Int)-1:=dg;go_wp2;go_ret;exact⟨rfl,HF,by rw[<-F.out];exact HB⟩
     ·have Z:¬(0:Int)<=(c:Int)-1:=dg
      go_wp2;go_ret;exact⟨rfl,HF,by rw[<-F.out];exact HB⟩
theorem tO:(prog.info? 291).map (λi=>(i.zero,i.size,i.bytes))=some (some (.agg #[Iq 0,Iq 0,Iq 0]),3,24):=ns
theorem Lx(a b c:Nat->Int):lA (λj=>cl (a j)) (λj=>dF (a j) (b j)) (λj=>cl (c j)):=λj=>
 ⟨(dq _).1,(gd _ _).1,(gd _ _).2,(dq _).1,(dq _).2⟩
theorem ru{w w'}{B n size}{e}{v}{j}(h:w.ownsRow B e size v n j)(l:Bt w w'):w'.ownsRow B e size v n j:=by
 refine⟨h.1,?_⟩;rcases h.2 with k|⟨g,f,i,a,b,c,d⟩;·exact .inl k
 ·exact .inr ⟨g,f,i,a,b,by rw[l.block g (aD.1 c).1];exact c,d⟩
theorem none_of{n}{Mn Mx Wt}{r}{g}(c:lA Mn Mx Wt)(b:bY n Mn Mx Wt r g)(f:aq Mn (List.range n)<=r)(a:tj n Mn Mx Wt r (n+1)):∀j,j<n->g j=if 0<Wt j then Mx j else Mn j:=by
 have k:=λj=>(c j).2.1;have hp:=λj=>(c j).2.2.2.1;rcases b with⟨h1,_⟩|⟨_,A,S,L,V,m,h⟩;·omega
 ·obtain⟨p,q,hd,l,o,d⟩:=h.facts;by_cases hS:S=[];·subst hS;intro j e;rw[h.is j e];grind
  ·exfalso;rcases h.cand k hp hS with h1|⟨i,hi,wi,h1⟩;·exact a.1 dg h1
   ·exact a.2 i dg wi h1
structure M8(w wr:World)(lw ob n k:Nat)(mn mx wt g:Nat->Int):Prop where
 len:cG wr ob 0 n (λj=>if j<k then g j else 0)
 want:dS wr lw 0 n mn mx wt
 bel:Bt w wr
theorem sq{g:Nat->Int}{k}v(a:v=g k):∀j,nQ (λj=>if j<k then g j else 0) k v j=if j<k+1 then g j else 0:=λj=>by grind[nQ]
theorem MR g k x v:nQ (nQ g k x) k v=nQ g k v:=by grind[nQ]
theorem M8.set{w wr}{c a n k}{d e f g}(h:M8 w wr c a n k d e f g)(l:k<n)(b:a≠c)(i:w.heap.size<=a)v(m:v=g k):M8 w (wr.setCell (aj a k) (Iq v)) c a n (k+1) d e f g:=by have h1:=h.len.set k v l;rw[aZ]at h1;exact⟨h1.congr λj _=>sq v m j,h.want.other _ _ _ b,h.bel.setCell i _⟩
theorem M8.set2{w wr}{c a n k}{f i l g}(h:M8 w wr c a n k f i l g)(e:k<n)(b:a≠c)(d:w.heap.size<=a)x v(m:v=g k):M8 w ((wr.setCell (aj a k) (Iq x)).setCell (aj a k) (Iq v)) c a n (k+1) f i l g:=by have h1:=(h.len.set k x e).set k v e;rw[aZ,MR]at h1;exact⟨h1.congr λj _=>sq v m j,(h.want.other _ _ _ b).other _ _ _ b,(h.bel.setCell d _).setCell d _⟩
structure KT(w wr:World)(lw ob rb n k:Nat)(mn mx wt base rest:Nat->Int):Prop where
 len:cG wr ob 0 n (λj=>if j<k then base j else 0)
 res:cG wr rb 0 n (λj=>if j<k then rest j else 0)
 want:dS wr lw 0 n mn mx wt
 bel:Bt w wr
theorem KT.below{w W W'}{c f g n k}{d e i a rest}(h:KT w W c f g n k d e i a rest)(b:Bt W W'):KT w W' c f g n k d e i a rest:=
 ⟨h.len.below b,h.res.below b,h.want.below b,h.bel.trans (b.mono h.bel.size)⟩
theorem KT.set{w wr}{d b c n k}{i l m a rest}(h:KT w wr d b c n k i l m a rest)(g:k<n)(h1:d<b)(q:b<c)(o:w.heap.size<=b)x y(p:x=a k)(hy:y=rest k):KT w ((wr.setCell (aj b k) (Iq x)).setCell (aj c k) (Iq y)) d b c n (k+1) i l m a rest:=by have e:=(h.len.set k x g);have f:=((h.res.other b k (Iq x) dg).set k y g);rw[aZ]at e f;exact⟨(e.other _ _ _ dg).congr λj _=>sq x p j,f.congr λj _=>sq y hy j,(h.want.other _ _ _ dg).other _ _ _ dg,(h.bel.setCell o _).setCell rd _⟩
structure KU(w wr:World)(ob rb n:Nat)(base rest:Nat->Int)(S:List Nat)(t:Nat):Prop where
 len:cG wr ob 0 n (λj=>base j+(if j∈S.take t then 1 else 0))
 res:cG wr rb 0 n (λj=>if j∈S.take t then-1 else rest j)
 bel:Bt w wr
theorem KU.below{w W W'}{c d n}{a rest}{S}{t}(h:KU w W c d n a rest S t)(b:Bt W W'):KU w W' c d n a rest S t:=
 ⟨h.len.below b,h.res.below b,h.bel.trans (b.mono h.bel.size)⟩
theorem KU.next{w wr}{b e n}{a rest}{S}{t}(h:KU w wr b e n a rest S t)(hS:S.Nodup)(l:t<S.length)i(hi:S[t]?.getD 0=i)(c:i<n)(o:b<e)(m:w.heap.size<=b):
 KU w ((wr.setCell (aj b i) (Iq (a i+1))).setCell (aj e i) (Iq (-1))) b e n a rest S (t+1):=by
 have d:=eF S t l;have f:=fo hS l;rw[hi]at d f;have p:∀j,j∈S.take (t+1)↔j∈S.take t\/j=i:=λj=>by rw[d];simp
 have g:=(h.len.set i (a i+1) c);have k:=((h.res.other b i (Iq (a i+1)) dg).set i (-1) c);rw[aZ]at g k;refine⟨(g.other _ _ _ dg).congr λj _=>?_,k.congr λj _=>?_,(h.bel.setCell m _).setCell rd _⟩;all_goals grind[nQ]
theorem G9 f:mF 1 f 0:=⟨dg,λj a=>rd,λj a=>dg⟩
theorem best_up{f}{i b}(h:mF i f b)(c:f b<f i):mF (i+1) f i:=
 ⟨dg,λj a=>by
  by_cases e:j=i;·rw[e];exact iD _
  ·have:=h.top j dg;omega,λj a=>by have:=h.top j a;omega⟩
theorem best_stay{f}{i b}(h:mF i f b)(c:¬f b<f i):mF (i+1) f b:=
 ⟨by have:=h.lt;omega,λj a=>by
  by_cases e:j=i;·rw[e];omega
  ·exact h.top j dg,h.first⟩
theorem ky(n blk off cap:Nat)(a b c:Nat->Int)(G Y:Int)(w:World)(h:dS w blk off n a b c)(S4:0<n)(hn:n<=200)(g:Nat->Int)(hsp:bY n (λj=>cl (a j)) (λj=>dF (a j) (b j)) (λj=>cl (c j)) (rm G Y n) g):
 Cw 149 #[Iq G,Iq Y,.slice (some (aj blk off)) n cap] w λe w'=>∃y,e=Rw (Sq y n n)/\w.heap.size<=y/\cG w' y 0 n g/\Bt w w':=by
 obtain⟨i0,hi,Ny,Nz,Tu⟩:=info_parts tO;have HW:=qH<|h;have C3:=qH<|rHeld_any;have CR:=qH<|λw=>FO G Y n S4 hn w;obtain⟨r,hr⟩:=ad (rm G Y n);have zV:=ue G Y n;have zX:=JB G Y n S4;rw[hr]at CR zV zX hsp;obtain⟨C,UY⟩:∃f:Nat->Int,(λj=>cl (a j))=f:=⟨_,rfl⟩;obtain⟨F,Q8⟩:∃f:Nat->Int,(λj=>dF (a j) (b j))=f:=⟨_,rfl⟩;obtain⟨H,Vp⟩:∃f:Nat->Int,(λj=>cl (c j))=f:=⟨_,rfl⟩;have hM:=Lx a b c;have W7:Hid (∀j,cl (a j)=C j):=λj=>by rw[<-UY]
 have W8:Hid (∀j,dF (a j) (b j)=F j):=λj=>by rw[<-Q8]
 have W9:Hid (∀j,cl (c j)=H j):=λj=>by rw[<-Vp]
 rw[UY,Q8,Vp]at hsp hM;have HM:=qH<|hM;have zN:=qH<|hsp;go_enter func149,ntmps149;go_wp2;go_loopw[7,8,9] (λv s i wr=>∃(k:Nat) (x:Int),s=Iq x/\i=Iq k/\k<=n/\0<=x/\x<=(k:Int)*100000/\Hid (x=aq C (List.range k))/\wr.ownsRow w.heap.size 291 3 v k (eH C F H k)/\Bt w wr) (λ_ _ i _=>n-(intOf i).toNat);case atStart=>exact⟨0,0,rfl,rfl,aR _,dg,dg,rfl,eO _ _ _ _,af _ _⟩
 case round=>
  obtain⟨k,x,rfl,rfl,hk,x0,x1,HX,zE,zj⟩:=hrel;by_cases d:k<n
  ·have zB:(k:Int)<(n:Int):=dg
   have Vn:=HW.below zj;obtain⟨c0,c1,c2⟩:=Vn.2 k d;have N:=HM k;have e1:=W7 k;have e2:=W8 k;have e3:=W9 k;obtain⟨a1,zO⟩:=ad (a k);obtain⟨a2,QV⟩:=ad (b k);obtain⟨a3,Uz⟩:=ad (c k);obtain⟨m1,z⟩:=ad (C k);obtain⟨m2,A⟩:=ad (F k);obtain⟨m3,B⟩:=ad (H k);rw[zO]at c0;rw[QV]at c1;rw[Uz]at c2;rw[zO,z]at e1;rw[zO,QV,A]at e2;rw[Uz,B]at e3;rw[z,A,B]at N;obtain⟨d1,d2,d3,d4,d5⟩:=N;have CH:=qH<|λw=>by have:=C3 a1 a2 a3 w;rw[e1,e2,e3]at this;exact this
   have HS:Hid (eH C F H (k+1)=eH C F H k++[Iq m1,Iq m2,Iq m3]):=by show _=_;rw[eH,z,A,B]
   have zr:Hid (x+m1=aq C (List.range (k+1))):=by show _=_;rw[jM,dm,<-HX.out,z]
   have zo:=zj.size;go_wp2_with fail;refine(CH _).mono ?_;rintro e w5 ⟨rfl,b5⟩;have zh:=zj.trans (b5.mono zo);have zm:=ru zE b5;have hz5:=b5.size;go_wp2_with(at_builtin;refine wpList_append_own _ rfl _ _ 234 rfl w.heap.size 291 i0 (.agg #[Iq 0,Iq 0,Iq 0]) 3 24 underlying234 hi Ny Nz Tu rfl (by decide) _ _ _ rfl ((zm.alloc _).alloc _) _ 1 1 [Iq m1,Iq m2,Iq m3] rfl rfl ?c1 ?c2 ?c3 ?c4 ?c5 ?_);case c1=>intro j u D;have:=qz (w5.alloc (.cells #[Iq m1,Iq m2,Iq m3] 291)) (Iq m1) (Iq m2) (Iq m3) 291 j u D;simp_all
   case c2=>intro u hu;simp at hu;rcases hu with rfl|rfl|rfl<;>rfl
   case c3=>unfold maxLen;omega
   case c4=>omega
   case c5=>simp;omega
   intro v' w6 zR hg _;have zF:=λq hq=>zm.lt q hq;have XK:=((zh.alloc dg _).alloc (by simp;omega) _).grown hg (by simp;omega) (λq hq=>(zF q hq).1);have cx:w6.cell? (aj w5.heap.size 0)=some (Iq m1):=by refine hg.cell ?_ (λe=>by have:w.heap.size<=w5.heap.size/\w5.heap.size<w5.heap.size:=zF _ e.symm;omega);rw[World.cell?_alloc_past _ _ _ rn,World.cell?_alloc_at _ _ _ _ rfl];rfl
   go_wp2;go_roundw;case rel=>exact⟨k+1,x+m1,rfl,by go_num,dg,dg,dg,zr,by rw[HS.out];exact zR,XK⟩
   grind[intOf]
  ·have Pf:¬(k:Int)<(n:Int):=dg
   obtain rfl:n=k:=dg;obtain⟨p,cp,rfl,To⟩:=Af zE;obtain⟨lw,rfl,Yj,hlw⟩:=To.resolve_left dg;have zM:=qH<|hlw;have zI:=qH<|zj;have Rc:=hlw.1;have zo:=zj.size;obtain⟨w3,rfl⟩:=Lj wr;by_cases Tm:r<x
   ·have CS:=qH<|rShrunk_any n lw cp C F H r w3 zM hn HM ⟨zV,zX⟩ (by rw[<-HX.out];exact Tm);have Wb:Hid (pq n C r g):=by
     rcases zN.out with⟨_,hb⟩|⟨h1,_⟩;·exact hb
     ·rw[<-HX.out]at h1;omega
    go_wp2_with(first|(go_at_call 201;refine(CR _).mono ?_;rintro e w5 ⟨rfl,Tp⟩;obtain rfl:=Tp.symm)|(go_at_call 202;fail));refine CS.mono ?_;rintro e w2 ⟨rfl,⟨g2,hf,XN⟩,hb⟩;have HF:=qH<|hf.congr (XN.uniq Wb);have za:=qH<|zI.trans (hb.mono zo);go_wp2;go_ret;exact⟨_,rfl,zo,HF,za⟩
   ·have hle:aq C (List.range n)<=r:=by rw[<-HX.out];omega
    have T8:=qH<|hle;have CP:=qH<|λw h=>yx n lw 0 cp C F H r w h hn HM ⟨zV,zX⟩;have Q7:=run_make_row' (P:=prog) 55 3 (Iq 0) 8 underlying55 gn rfl .i64 .i64 n dg dg;obtain⟨y,zv⟩:=ad w3.heap.size;obtain⟨w4,zw⟩:=ad (w3.alloc (.cells (madeCells #[Iq 0] n) 3));have zP:Bt w3 w4:=by rw[<-zw];exact(af _ _).alloc (ae _) _
    have YJ:w4.heap.size=y+1:=by rw[<-zw,<-zv];simp
    have HR4:Hid (cG w4 y 0 n (λ_=>0)):=by
     rw[<-zw];refine⟨by simp;omega,λj D=>⟨?_,?_⟩⟩;·rw[World.cell?_alloc_at _ _ _ _ zv.symm];simp[madeCells,D,uB]
     ·rw[World.frozen?_alloc_at _ _ _ _ zv.symm]
    have zb:=qH<|zM.below zP;have zy:=qH<|zI.trans (zP.mono zo);have TT:=qH<|CP w4 zb;go_wp2_with(first|(go_at_call 201;refine(CR _).mono ?_;rintro e w5 ⟨rfl,Tp⟩;obtain rfl:=Tp.symm)|(go_at_call 203;fail));refine TT.mono ?_;rintro e w5 ⟨p,q,rfl,Ve,zg⟩;have zq:=qH<|HR4.below zg;have R:=qH<|zb.below zg;have J:=qH<|zy.trans (zg.mono dg);have hs5:=zg.size;have E:w.heap.size<=y:=dg
    have SY:lw<y:=dg;have Yy:y<w5.heap.size:=dg;clear zg zP zw zv YJ CP TT HR4 zb zy zM zI;rcases Ve with⟨rfl,rfl,zA⟩|⟨zT,zU,zS,Qo,zG⟩
    ·have HG:=qH<|none_of HM zN T8 zA;clear zA;have G0:Hid (M8 w w5 lw y n 0 C F H g):=⟨zq.congr λj _=>rn,R,J⟩;clear zq R J;go_wp2;go_loopw[15] (λi wr=>∃k:Nat,i=Iq k/\k<=n/\Hid (M8 w wr lw y n k C F H g)) (λi _=>n-(intOf i).toNat);case atStart=>grind
     case round=>
      obtain⟨k,rfl,hk,HGS⟩:=hrel;by_cases d:k<n
      ·have zB:(k:Int)<(n:Int):=dg
       have hs:=HGS.out;obtain⟨f0,f1,f2⟩:=hs.want.2 k d;have Q:=HG k d;obtain⟨m1,z⟩:=ad (C k);obtain⟨m2,A⟩:=ad (F k);obtain⟨m3,B⟩:=ad (H k);rw[z,aZ]at f0;rw[A,aZ]at f1;rw[B,aZ]at f2;rw[z,A,B]at Q;have Tv:=hs.want.1;have Z:=hs.len.1;have Z9:wr.cell? (aj y k)=some (Iq 0):=by have:=(hs.len.2 k d).1;dsimp only at this;rw[if_neg dg,aZ]at this;exact this
       have _h:wr.frozen? (aj y k)=false:=by have:=(hs.len.2 k d).2;rw[aZ]at this;exact this
       by_cases zn:0<m3
       ·rw[if_pos zn]at Q;have HN:=qH<|hs.set2 d dg E m1 m2 Q.symm;clear hs Q z A B HGS;go_wp2;go_roundw;case rel=>exact⟨k+1,by go_num,dg,HN⟩
        case measure=>simp[intOf];omega
       ·rw[if_neg zn]at Q;have HN:=qH<|hs.set d dg E m1 Q.symm;clear hs Q z A B HGS;go_wp2;go_roundw;case rel=>exact⟨k+1,by go_num,dg,HN⟩
        case measure=>simp[intOf];omega
      ·have Pf:¬(k:Int)<(n:Int):=dg
       obtain rfl:n=k:=dg;have HF:=qH<|HGS.len.congr λj D=>by rw[if_pos D]
       have HB:=qH<|HGS.bel;clear HGS;go_wp2;go_ret;exact⟨_,rfl,E,HF,HB⟩
    ·obtain⟨S,m,o,rest,hP⟩:=kx HM zN T8 zT zG;have HP:=qH<|hP;have zJ:Hid (∀j,j<n->0<=o j/\o j<=100000):=λj D=>by have N:=HM j;have h1:=BB (a:=C j) (b:=F j) (c:=H j) (p:=p) (q:=q) N.1 dg N.2.2.1 N.2.2.2.1 zS dg zU;have h2:=(pX (C j) (F j) (H j) p q).1;rw[<-hP.base_ j D];refine⟨Ak h1.1 dg,?_⟩;have h3:=Int.ediv_le_ediv zT h2;rw[Ej _ dg]at h3;omega
     have WN:Hid (∀j,j<n->0<=rest j/\rest j<q):=λj D=>by rw[<-hP.rest_ j D];exact⟨Aj _ dg,Eb _ zT⟩
     have Wv:Hid (∀j,j<n->∀w,Cw 204 #[.agg #[Iq (C j),Iq (F j),Iq (H j)],Iq p,Iq q] w λe w'=>e=Rw (Iq (eR (C j) (F j) (H j) p q))/\Bt w w'):=λj D w=>by have N:=HM j;exact rC (C j) (F j) (H j) p q w ⟨N.1,dg⟩ ⟨dg,N.2.2.1⟩ ⟨N.2.2.2.1,N.2.2.2.2⟩ ⟨zS,dg⟩ ⟨dg,zU⟩
     clear hP zG;have hq':(q==0)=false:=by simp;omega
     have YD:¬q=0:=dg;obtain⟨U,Qp⟩:=ad w5.heap.size;obtain⟨w6,zx⟩:=ad (w5.alloc (.cells (madeCells #[Iq 0] n) 3));have zD:y<U:=dg;have H0:Hid (KT w w6 lw y U n 0 C F H o rest):=by
      have zh:Bt w5 w6:=by rw[<-zx];exact(af _ _).alloc (ae _) _
      refine⟨(zq.below zh).congr λj _=>rn,⟨by rw[<-zx];simp;omega,λj D=>⟨?_,?_⟩⟩,R.below zh,J.trans (zh.mono J.size)⟩;·rw[<-zx,World.cell?_alloc_at _ _ _ _ Qp.symm];simp[madeCells,D,uB]
      ·rw[<-zx,World.frozen?_alloc_at _ _ _ _ Qp.symm]
     clear zq R J;go_wp2;go_loopw[17,18] (λl i wr=>∃(k:Nat) (x:Int),l=Iq x/\i=Iq k/\k<=n/\-20000000<=x/\x<=100000/\Hid (x=r-aq o (List.range k))/\Hid (KT w wr lw y U n k C F H o rest)) (λ_ i _=>n-(intOf i).toNat);case atStart=>exact⟨0,r,rfl,rfl,aR _,dg,dg,by simp[Hid,aq],H0⟩
     case round=>
      obtain⟨k,x,rfl,rfl,hk,xl,xu,HX,W⟩:=hrel;by_cases d:k<n
      ·have zB:(k:Int)<(n:Int):=dg
       have hs:=W.out;obtain⟨f0,f1,f2⟩:=hs.want.2 k d;have CL:=Wv k d wr;have zi:=zJ k d;have Vi:=WN k d;have eb:=HP.base_ k d;have er:=HP.rest_ k d;have N:=HM k;have zl:=BB (a:=C k) (b:=F k) (c:=H k) (p:=p) (q:=q) N.1 dg N.2.2.1 N.2.2.2.1 zS dg zU;obtain⟨m1,z⟩:=ad (C k);obtain⟨m2,A⟩:=ad (F k);obtain⟨m3,B⟩:=ad (H k);obtain⟨bs,O⟩:=ad (o k);obtain⟨rs,zY⟩:=ad (rest k);rw[z,aZ]at f0;rw[A,aZ]at f1;rw[B,aZ]at f2;rw[z,A,B]at CL eb er zl;obtain⟨lv,UT⟩:=ad (eR m1 m2 m3 p q);rw[UT]at CL eb er zl;rw[O]at zi eb;rw[zY]at Vi er;have TX:Hid _:=CL;have Nw:lv.tdiv q=bs:=by rw[ux zl.1,eb]
       have YP:lv.tmod q=rs:=by rw[NY zl.1,er]
       obtain⟨l1,l2⟩:=zl;obtain⟨b1,b2⟩:=zi;obtain⟨r1,r2⟩:=Vi;have zr:Hid (x-bs=r-aq o (List.range (k+1))):=by show _=_;rw[jM,dm,HX.out,O];omega
       have Y6:-20000000<=x-bs:=by rw[zr.out];have:aq o (List.range (k+1))<=((List.range (k+1)).length:Int)*100000:=eE λj D=>(zJ j (by have:=uA.1 D;omega)).2;rw[Ec]at this;omega
       have HN:Hid (∀W',Bt wr W'->KT w ((W'.setCell (aj y k) (Iq bs)).setCell (aj U k) (Iq rs)) lw y U n (k+1) C F H o rest):=λW' hb=>(hs.below hb).set d SY zD E bs rs O.symm zY.symm;have Z:=hs.len.1;have zH:=hs.res.1;have zc:wr.cell? (aj y k)=some (Iq 0):=by have:=(hs.len.2 k d).1;dsimp only at this;rw[if_neg dg,aZ]at this;exact this
       have ze:wr.frozen? (aj y k)=false:=by have:=(hs.len.2 k d).2;rw[aZ]at this;exact this
       have Us:wr.cell? (aj U k)=some (Iq 0):=by have:=(hs.res.2 k d).1;dsimp only at this;rw[if_neg dg,aZ]at this;exact this
       have Uu:wr.frozen? (aj U k)=false:=by have:=(hs.res.2 k d).2;rw[aZ]at this;exact this
       have Tv:=hs.want.1;clear hs CL N z A B O zY UT HX W;go_wp2_with fail;refine ag TX ?_;rintro e w7 ⟨rfl,b7⟩;have Xi:=(b7.cell (p:=(aj y k)) Z).trans zc;have Xp:=(b7.frozen (p:=(aj y k)) Z).trans ze;have Xj:=(b7.cell (p:=(aj U k)) zH).trans Us;have Xq:=(b7.frozen (p:=(aj U k)) zH).trans Uu;have Ua:=HN w7 b7;have WB:Hid _:=Ua;clear b7 HN Ua TX zc ze Us Uu;go_wp2;go_roundw;case rel=>exact⟨k+1,x-bs,rfl,by go_num,dg,dg,dg,zr,WB⟩
       case measure=>simp[intOf];omega
      ·have Pf:¬(k:Int)<(n:Int):=dg
       obtain rfl:n=k:=dg;have Y7:x=(m:Int):=by rw[HX.out];exact HP.left
       have K0:Hid (KU w wr y U n o rest S 0):=⟨W.len.congr λj D=>by simp[D],W.res.congr λj D=>by simp[D],W.bel⟩;clear HX W;subst Y7;go_wp2;go_loopw[17] (λl wr=>∃t:Nat,l=Iq ((m:Int)-t)/\t<=m/\Hid (KU w wr y U n o rest S t)) (λl _=>(intOf l).toNat);case atStart=>exact⟨0,rn,aR _,K0⟩
       case round=>
        obtain⟨t,rfl,ht,HK⟩:=hrel;by_cases d:t<m
        ·have zn:(0:Int)<(m:Int)-t:=dg
         have zZ:=zz007 d HP.le;obtain⟨i,hi⟩:=ad (S[t]?.getD 0);have zu:=HP.lt i (by rw[<-hi];exact pO zZ);have I:=HP.best t d;rw[hi]at I;obtain⟨f,hf⟩:∃f:Nat->Int,(λj=>if j∈S.take t then-1 else rest j)=f:=⟨_,rfl⟩;rw[hf]at I;have zK:=qH<|I;have hres:cG wr U 0 n f:=by have:=HK.res;rw[hf]at this;exact this
         have zz:=qH<|hres;have Y_:=hres.1;have zL:Hid (∀W',Bt wr W'->KU w ((W'.setCell (aj y i) (Iq (o i+1))).setCell (aj U i) (Iq (-1))) y U n o rest S (t+1)):=λW' hb=>(HK.below hb).next HP.nodup zZ i hi zu zD E;have zC:i∉S.take t:=by rw[<-hi];exact fo HP.nodup zZ
         have zt:=HK.len.2 i zu;dsimp only at zt;rw[if_neg zC,aZ,Aw]at zt;have Z:=HK.len.1;have zi:=zJ i zu;obtain⟨bs,O⟩:=ad (o i);rw[O]at zt zi zL;obtain⟨zc,ze⟩:=zt;obtain⟨b1,b2⟩:=zi;have SI:(i:Int)<(n:Int):=dg;have Vc:¬(m:Int)<=t:=dg;clear I hf hres zC O HK;obtain⟨w8,rfl⟩:=Lj wr;go_wp2;go_loopw[20,21] (λb j wq=>∃X T:Nat,b=Iq X/\j=Iq T/\1<=T/\T<=n/\X<n/\Hid (mF T f X)/\Bt w8 wq) (λ_ j _=>n-(intOf j).toNat);case atStart=>exact⟨0,1,rfl,rfl,dg,dg,dg,G9 f,af _ _⟩
         case round=>
          obtain⟨X,T,rfl,rfl,X7,UJ,UA,V,K⟩:=hrel;by_cases SX:T<n
          ·have hl1:(T:Int)<(n:Int):=dg
           have SU:(X:Int)<(n:Int):=dg;have M:=zz.below K;have cA:=(M.2 T SX).1;have cB:=(M.2 X UA).1;rw[aZ]at cA cB;obtain⟨fa,L⟩:=ad (f T);obtain⟨fb,zk⟩:=ad (f X);rw[L]at cA;rw[zk]at cB;have hzq:=M.1;by_cases UH:fb<fa
           ·have za:=qH<|best_up V (by rw[L,zk];exact UH);clear M L zk V;go_wp2_with fail;go_quiet(fail);go_wp2;go_roundw;case rel=>exact⟨T,T+1,rfl,by go_num,dg,dg,dg,za,below_drewN K _⟩
            case measure=>simp[intOf];omega
           ·have za:=qH<|best_stay V (by rw[L,zk];exact UH);clear M L zk V;go_wp2_with fail;go_quiet(fail);go_wp2;go_roundw;case rel=>exact⟨X,T+1,rfl,by go_num,dg,dg,dg,za,below_drewN K _⟩
            case measure=>simp[intOf];omega
          ·have hl1:¬(T:Int)<(n:Int):=dg
           have UK:T=n:=dg;have XM:X=i:=by have h1:=V.out;rw[UK]at h1;exact h1.uniq zK
           subst XM;have Xi:=(K.cell (p:=(aj y X)) Z).trans zc;have Xp:=(K.frozen (p:=(aj y X)) Z).trans ze;have M:=zz.below K;have zQ:=M.2 X zu;rw[aZ]at zQ;obtain⟨fa,L⟩:=ad (f X);rw[L]at zQ;obtain⟨Xj,Xq⟩:=zQ;have HN:Hid _:=zL wr K;clear M L V UK zc ze K zL;go_wp2;go_roundw;case rel=>exact⟨t+1,by go_num,dg,HN⟩
           case measure=>simp[intOf];omega
        ·obtain rfl:m=t:=dg
         have Ny:¬(0:Int)<(m:Int)-m:=dg;have HF:=qH<|HK.len.congr λj D=>(HP.is j D).symm;have HB:=qH<|HK.bel;clear HK;go_wp2;go_ret;exact⟨_,rfl,E,HF,HB⟩
theorem rOpen_nil(p q:Int)(w:World):
 Cw 231 #[.slice none 0 0,Iq p,Iq q] w λe w'=>e=Rw (.tuple #[Iq 0,Iq 0])/\w'=w:=by
 go_enter func231,ntmps231;go_wp2;go_loop[8,9,10] (λs t i=>s=Iq 0/\t=Iq 0/\i=Iq 0) (λ_ _ _=>0);case atStart=>grind
 case round=>obtain⟨rfl,rfl,rfl⟩:=hrel;go_wp2;go_ret2;simp_all
theorem rPoured_nil(r:Int)(w:World):
 Cw 203 #[.slice none 0 0,Iq r] w λe w'=>e=Rw (.tuple #[Iq 0,Iq 0])/\w'=w:=by
 have b:=qH<|rOpen_nil 0 1;go_enter func203,ntmps203;go_wp2;go_loop[6] (λi=>i=Iq (-1)\/i=Iq 0) (λi=>(0-intOf i).toNat);case atStart=>grind
 case round=>
  rcases hrel with rfl|rfl;·go_wp2_with(go_at_call 231;refine(b _).mono ?_;rintro e c ⟨rfl,a⟩;obtain rfl:=a.symm);simp_all[intOf]
  ·go_wp2;go_ret2;simp_all
theorem kz(p:Option Addr)(g:Nat)(a c:Int)(w:World):
 Cw 149 #[Iq a,Iq c,.slice p 0 g] w λe w'=>∃q,e=Rw (.slice q 0 0)/\Bt w w':=by
 have CR:Hid (∀w,Cw 201 #[Iq a,Iq c,Iq 0] w λe w'=>e=Rw (Iq (cl a))/\w'=w):=λw=>ud a c 0 dg w;obtain⟨h,f⟩:=ad (cl a);have b:=dq a;rw[f]at CR b;have m:=b.1;have n:¬h<0:=dg;clear f b;have j:=qH<|rPoured_nil h;have k:∀u:World,(Instr.makeSlice 55 (Iq 0) (Iq 0)).run prog u=.ok (Sq u.heap.size 0 0) (u.alloc (.cells (madeCells #[Iq 0] 0) 3)):=λu=>run_make_row' (P:=prog) 55 3 (Iq 0) 8 underlying55 gn rfl .i64 .i64 0 dg dg u;go_enter func149,ntmps149;go_wp2;go_loop[7,8,9] (λv s i=>v=.slice none 0 0/\s=Iq 0/\i=Iq 0) (λ_ _ _=>0);case atStart=>grind
 case round=>
  obtain⟨rfl,rfl,rfl⟩:=hrel;go_wp2_with(first|(go_at_call 201;refine(CR _).mono ?_;rintro e l ⟨rfl,d⟩;obtain rfl:=d.symm)|(go_at_call 203;refine(j _).mono ?_;rintro e l ⟨rfl,d⟩;obtain rfl:=d.symm));go_loop[15] (λi=>i=Iq 0) (λ_=>0);case atStart=>exact rfl
  case round=>obtain rfl:=hrel;go_wp2;go_ret;exact⟨⟨_,rfl⟩,(af _ _).alloc (ae _) _⟩
structure KY(w wr:World)(lb ob n k:Nat)(g:Nat->Int)(cg:Int):Prop where
 len:cG wr lb 0 n g
 out:cG wr ob 0 n (λj=>if j<k then cd g cg j else 0)
 bel:Bt w wr
theorem KY.below{w W W'}{lb c n k}{g}{b}(h:KY w W lb c n k g b)(a:Bt W W'):KY w W' lb c n k g b:=⟨h.len.below a,h.out.below a,h.bel.trans (a.mono h.bel.size)⟩
theorem KY.set{w wr}{c b n k}{g}{a}(h:KY w wr c b n k g a)(e:k<n)(f:c<b)(d:w.heap.size<=b):KY w (wr.setCell (aj b k) (Iq (cd g a k))) c b n (k+1) g a:=by have h1:=h.out.set k (cd g a k) e;rw[aZ]at h1;exact⟨h.len.other _ _ _ dg,h1.congr λj _=>sq (g:=λj=>cd g a j) _ rfl j,h.bel.setCell d _⟩
theorem FK(v:Value)(a b:Int)(w:World)(p:Option Addr)(C:Cw 149 #[Iq a,Iq b,v] w λe w'=>∃q,e=Rw (.slice q 0 0)/\Bt w w'):
 Cw 151 #[Iq a,Iq b,v] w λe w'=>∃q,e=Rw (.slice q 0 0)/\Bt w w':=by
 have f:Hid (Cw 149 #[Iq a,Iq b,v] w λe w'=>∃q,e=Rw (.slice q 0 0)/\Bt w w'):=C;have g:∀u:World,(Instr.makeSlice 55 (Iq 0) (Iq 0)).run prog u=.ok (Sq u.heap.size 0 0) (u.alloc (.cells (madeCells #[Iq 0] 0) 3)):=λu=>run_make_row' (P:=prog) 55 3 (Iq 0) 8 underlying55 gn rfl .i64 .i64 0 dg dg u;clear C;go_enter func151,ntmps151;go_wp2_with fail;refine f.out.mono ?_;rintro e h ⟨q,rfl,c⟩;have d:Hid (Bt w (h.alloc (.cells (madeCells #[Iq 0] 0) 3))):=c.alloc c.size _;clear c;go_wp2;go_loop[9,10] (λs i=>s=Iq 0/\i=Iq 0) (λ_ _=>0);case atStart=>grind
 case round=>obtain⟨rfl,rfl⟩:=hrel;go_wp2;go_ret;exact⟨⟨_,rfl⟩,d.out⟩
theorem FJ(n p off z:Nat)(a b c:Nat->Int)(m d:Int)(w:World)(h:dS w p off n a b c)(U:0<n)(hn:n<=200)(g:Nat->Int)(C:bY n (λj=>cl (a j)) (λj=>dF (a j) (b j)) (λj=>cl (c j)) (rm m d n) g):
 Cw 151 #[Iq m,Iq d,.slice (some (aj p off)) n z] w λe w'=>∃f,e=Rw (Sq f n n)/\w.heap.size<=f/\cG w' f 0 n (cd g (cl d))/\Bt w w':=by
 have CS:Hid (Cw 149 #[Iq m,Iq d,.slice (some (aj p off)) n z] w λe w'=>∃f,e=Rw (Sq f n n)/\w.heap.size<=f/\cG w' f 0 n g/\Bt w w'):=ky n p off z a b c m d w h U hn g C;have X:Hid (∀w,Cw 157 #[Iq d] w λe w'=>e=Rw (Iq (cl d))/\w'=w):=λw=>rCl_any d w;have B:∀j,j<n->0<=g j/\g j<=100000:=λj H=>by have h1:=(C.tiles (fG a b c)).1 j H;have h2:=fG a b c j;omega
 have q:=dq d;obtain⟨l,v⟩:=ad (cl d);rw[v]at X q⊢;have Q:=q.1;have R:=q.2;have M:Hid (∀j,j<n->0<=g j/\g j<=100000):=B;have O:Hid (∀k,k<=n->0<=cd g l k/\cd g l k<=(k:Int)*200000):=λk S=>la B ⟨Q,R⟩ k S;have zh:=run_make_row' (P:=prog) 55 3 (Iq 0) 8 underlying55 gn rfl .i64 .i64 n dg dg;clear h C B v q;go_enter func151,ntmps151;go_wp2_with fail;refine CS.out.mono ?_;rintro e W ⟨L,rfl,zg,o,A⟩;have zj:=o.1;have V:=A.size;obtain⟨f,J⟩:=ad W.heap.size;obtain⟨w2,u⟩:=ad (W.alloc (.cells (madeCells #[Iq 0] n) 3));have O0:Hid (KY w w2 L f n 0 g l):=by
  have Z:Bt W w2:=by rw[<-u];exact(af _ _).alloc (ae _) _
  refine⟨o.below Z,⟨by rw[<-u];simp;omega,λj H=>⟨?_,?_⟩⟩,A.trans (Z.mono V)⟩;·rw[<-u,World.cell?_alloc_at _ _ _ _ J.symm];simp[madeCells,H,uB]
  ·rw[<-u,World.frozen?_alloc_at _ _ _ _ J.symm]
 have T:L<f:=dg;have F:w.heap.size<=f:=dg;clear o A CS;go_wp2;go_loopw[9,10] (λs i wr=>∃k:Nat,s=Iq (cd g l k)/\i=Iq k/\k<=n/\Hid (KY w wr L f n k g l)) (λ_ i _=>n-(intOf i).toNat);case atStart=>exact⟨0,rfl,rfl,aR _,O0.out⟩
 case round=>
  obtain⟨k,rfl,rfl,S,E⟩:=hrel;by_cases r:k<n
  ·have za:(k:Int)<(n:Int):=dg
   have D:=E.out;have hc:=(D.len.2 k r).1;have hd:=D.out.2 k r;dsimp only at hd;rw[if_neg dg,aZ]at hd;rw[aZ]at hc;have G:=M.out k r;have I:=O.out k S;have t:=ld g l k;have Y:Hid (KY w (wr.setCell (aj f k) (Iq (cd g l k))) L f n (k+1) g l):=D.set r T F;obtain⟨gk,x⟩:=ad (g k);rw[x]at hc G t;obtain⟨K,y⟩:=ad (cd g l k);rw[y]at I t Y⊢;have N:Hid (cd g l (k+1)=K+gk+l):=by show _=_;rw[t];omega
   obtain⟨d1,d2⟩:=hd;obtain⟨zb,zc⟩:=G;obtain⟨zl,zm⟩:=I;have zi:=D.len.1;have zk:=D.out.1;have zn:IntKind.i64.wrap (K+gk)=K+gk:=IntWalk.i64_in _ ⟨dg,dg⟩;have zo:IntKind.i64.wrap (K+gk+l)=K+gk+l:=IntWalk.i64_in _ ⟨dg,dg⟩;clear D x y t E;go_wp2_with fail;go_quiet(first|(go_at_call 157;exact Calls.quiet_of_same (X.out _)));go_wp2;go_roundw;case rel=>exact⟨k+1,by rw[N.out],by go_num,dg,Y.out.below (below_drewN (af _ _) _)⟩
   grind[intOf]
  ·have ze:¬(k:Int)<(n:Int):=dg
   obtain rfl:n=k:=dg;have HF:Hid (cG wr f 0 n (cd g l)):=E.out.out.congr λj H=>by rw[if_pos H]
   have HB:Hid (Bt w wr):=E.out.bel;clear E;go_wp2;go_ret;exact⟨_,rfl,F,HF.out,HB.out⟩
