import Derived.Shelf.SortM.Plain
import Derived.Shelf.SortM.SortNone
import Derived.Test.YtehgehanbnkdiaaGreatDoorQ05
import Derived.Test.YtehgehanbnkdiaaGreatDoorQ11
set_option linter.all false
set_option maxRecDepth 100000
set_option maxHeartbeats 16000000
namespace Go.Proofs.YtehgehanbnkdiaaGreatDoor
end Go.Proofs.YtehgehanbnkdiaaGreatDoor
namespace Go.Proofs
open Go.Shelf
shelf_lay_g SlLaysM.n5 Slgm 5 at Tryz 103 as Tryz.sortLaid
end Go.Proofs
namespace Go.Proofs.YtehgehanbnkdiaaGreatDoor
section
open Go.RowKit Go.Sort Go.Proofs.Tryz
def grownBy_sorted{w:AT}{g n off}{os}d:w.grownBy (grow (putRow (Value.int .i64) (Sort.ahead w n) g off d) os) (some g):=by refine⟨rfl,rfl,rfl,At,λk b a=>?_⟩;rw[heap_grow_old _ _ (by simpa using b)];have:g≠k:=λe=>a (by rw[e]);simp[putRow,mapBlock,Sort.ahead,Array.getElem?_modify,this]
def qj b a off d n w(h:aO w a off b)(z:b.length=n)(r:n<=1099511627776):
 Cw 103 #[.slice (some (aq a off)) n d] w λe w'=>e=Rw (.tuple #[])/\aO w' a off (b.mergeSort λx y=>decide (x<=y))/\w.grownBy w' (some a):=by
 subst z;have o:Holds (Value.int .i64) w a off b.toArray:=λj m=>by
  have f:j<b.length:=by simpa using m
  refine⟨?_,(h.2 j f).2⟩;rw[(h.2 j f).1];grind
 refine(AnyM.slices_Sort_int Tryz.sortLaid a off d b w o h.1 dg).mono ?_;rintro e w' ⟨t,q,os,rfl⟩;refine⟨t,?_,grownBy_sorted _⟩;obtain⟨c,g⟩:=af (b.mergeSort λx y=>decide (x<=y));have v:c.length=b.length:=by rw[<-g];exact(JY _ _).length_eq
 rw[g];have s:Holds (Value.int .i64) (putRow (Value.int .i64) (Sort.ahead w q) a off c.toArray) a off c.toArray:=holds_putRow _ _ _ _ b.toArray _ o dg;have l:a<(putRow (Value.int .i64) (Sort.ahead w q) a off c.toArray).heap.size:=by simpa using h.1
 have i:Below (putRow (Value.int .i64) (Sort.ahead w q) a off c.toArray).heap.size (putRow (Value.int .i64) (Sort.ahead w q) a off c.toArray) (grow (putRow (Value.int .i64) (Sort.ahead w q) a off c.toArray) os):=
  ⟨rfl,rfl,rfl,At,λk u=>heap_grow_old _ _ u⟩;refine⟨zz006 l i.size,λj m=>?_⟩;have:=s j dg;refine⟨(i.cell (p:=(aq a (off+j))) l).trans (this.1.trans ?_),(i.frozen (p:=(aq a (off+j))) l).trans this.2⟩;simp[m]
def dy(W:AT)(blk off n:Nat)(g:zzb):Prop:=blk<W.heap.size/\∀j,j<n->W.cell? (aq blk (off+j))=some (Iq (g j))/\W.frozen? (aq blk (off+j))=false
def Nf(g:zzb)(i:Nat)(y:Int):Nat->Int:=λk=>if k=i then y else g k
def dy.set{W}{a off n}{g}(h:dy W a off n g)i y(hi:i<n):dy (W.setCell (aq a (off+i)) (Iq y)) a off n (Nf g i y):=by
 refine⟨by simpa using h.1,λk b=>?_⟩;simp only[eS];refine⟨?_,(h.2 k b).2⟩;rw[ua _ _ _ _ _ ⟨_,(h.2 i hi).1⟩];unfold Nf;by_cases e:k=i;.grind
 .rw[if_neg e,if_neg dg];exact(h.2 k b).1
def dy.other{W}{a off n}{g}(h:dy W a off n g)b o v(d:b≠a):dy (W.setCell (aq b o) v) a off n g:=by refine⟨by simpa using h.1,λk c=>?_⟩;simp only[eS];refine⟨?_,(h.2 k c).2⟩;rw[cu _ _ _ _ (λe=>d rn),(h.2 k c).1]
def dy.congr{W}{a off n}{g b}(h:dy W a off n g)(e:∀j,j<n->g j=b j):dy W a off n b:=
 ⟨h.1,λj c=>by rw[<-e j c];exact h.2 j c⟩
def dy.below{A B}{a off n}{g}(h:dy A a off n g)(b:Bq A B):dy B a off n g:=
 ⟨zz006 h.1 b.size,λj c=>⟨(b.cell (p:=(aq a (off+j))) h.1).trans (h.2 j c).1,(b.frozen (p:=(aq a (off+j))) h.1).trans (h.2 j c).2⟩⟩
def tH{A B:AT}{r b o}(a:A.grownBy B (some r))(c:b<A.heap.size)(d:b≠r):B.frozen? (aq b o)=A.frozen? (aq b o):=by unfold World.frozen?;rw[a.block b c (λe=>d (by injection e))]
def dy.grown{A B}{a off n r}{g}(h:dy A a off n g)(b:A.grownBy B (some r))(d:a≠r):dy B a off n g:=
 ⟨zz006 h.1 b.size,λj c=>⟨b.cell (h.2 j c).1 (by simpa using d),(tH b h.1 d).trans (h.2 j c).2⟩⟩
def fB.other{W}{d off n}{a b c}(h:fB W d off n a b c)r o v(f:r≠d):fB (W.setCell (aq r o) v) d off n a b c:=by have k:∀p,(W.setCell (aq r o) v).cell? (aq d p)=W.cell? (aq d p):=λp=>cu _ _ _ _ (λe=>f rn);refine⟨by simpa using h.1,λj g=>by rw[k,k,k];exact h.2 j g⟩
def aO.other{W}{a off}{d}(h:aO W a off d)b o v(f:b≠a):aO (W.setCell (aq b o) v) a off d:=by refine⟨by simpa using h.1,λk c=>?_⟩;simp only[eS];refine⟨?_,(h.2 k c).2⟩;rw[cu _ _ _ _ (λe=>f rn),(h.2 k c).1]
def xi{Q}(i:Q.Nodup):∃A,((cQ Q).mergeSort λx y=>decide (x<=y))=cQ A/\A.Perm Q/\A.Pairwise (·<·):=by
 obtain⟨A,e,f⟩:=mM (JY (cQ Q) λx y=>decide (x<=y));refine⟨A,e,f,?_⟩;have d:(cQ A).Pairwise (λx y=>decide (x<=y)=true):=by rw[<-e];exact List.pairwise_mergeSort (λa b c j k=>rn) (λa b=>by simp;omega) _
 unfold cQ at d;rw[JQ]at d;have g:=f.nodup_iff.2 i;refine(d.and g).imp λh=>?_;grind
structure Ke(w wr:AT)(n lb lo wb wo ob oo B fb:Nat)(Mn Mx Wt g:zzb)(A:zzh)(L V:Int)(k:Nat):Prop where
 len:dy wr lb lo n (λj=>if j∈A.take k then g j+L*Wt j/V else g j)
 frac:dy wr fb 0 n (λj=>if j∈A.take k then L*Wt j %V else 0)
 open_:aO wr ob oo (cQ A)
 want:fB wr wb wo n Mn Mx Wt
 box:wr.cell? (aq (fb+1) 0)=some (Sq fb n n)
 size:fb+1<wr.heap.size
 bel:Below B w wr
def oH{A}{k}(a:k<A.length):(cQ A)[k]?.getD 0=((A[k]?.getD 0:Nat):Int):=by simp[cQ,a]
theorem ec(A:zzh)k(a:k<A.length):A.take (k+1)=A.take k++[A[k]?.getD 0]:=by simp_all
def td{A:zzh}{k}(a:k<A.length):A[k]?.getD 0∈A:=rn
def fK{A:zzh}{k}(a:A.Nodup)(b:k<A.length):A[k]?.getD 0∉A.take k:=by have h:=a.sublist (List.take_sublist (k+1) A);grind[ec]
def Ke.next{w wr}{n a lo f s d r B b}{Mn Mx Wt g}{A}{L V}{k}(h:Ke w wr n a lo f s d r B b Mn Mx Wt g A L V k)(v:A.Nodup)(p:k<A.length)i(hi:A[k]?.getD 0=i)(c:i<n)(t:a≠d)(u:a≠f)(y:a<b)(z:d<b)(C:f<b)(l:B<=a)(m:B<=b):
 Ke w ((wr.setCell (aq a (lo+i)) (Iq (g i+L*Wt i/V))).setCell (aq b (0+i)) (Iq (L*Wt i %V))) n a lo f s d r B b Mn Mx Wt g A L V (k+1):=by
 have q:=ec A k p;have o:=fK v p;rw[hi]at q o;have D:∀j,j∈A.take (k+1)↔j∈A.take k\/j=i:=λj=>by rw[q];simp
 refine⟨?_,?_,?_,?_,?_,?_,?_⟩;.refine((h.len.set i (g i+L*Wt i/V) c).other _ _ _ dg).congr λj x=>?_;grind[Nf]
 .refine((h.frac.other a (lo+i) (Iq (g i+L*Wt i/V)) dg).set i _ c).congr λj x=>?_;grind[Nf]
 .exact(h.open_.other _ _ _ t).other _ _ _ dg
 .exact(h.want.other _ _ _ u).other _ _ _ dg
 .rw[cu _ _ _ _ (λe=>rn),cu _ _ _ _ (λe=>rn)];exact h.box
 .simpa using h.size
 .exact(h.bel.setCell l _).setCell m _
def Ke.below{w W W'}{n lb lo e f c d B b}{Mn Mx Wt g}{A}{L V}{k}(h:Ke w W n lb lo e f c d B b Mn Mx Wt g A L V k)(a:Bq W W')(i:B<=b):Ke w W' n lb lo e f c d B b Mn Mx Wt g A L V k:=
 ⟨h.len.below a,h.frac.below a,h.open_.below a,h.want.below a,(a.cell (p:=(aq (b+1) 0)) h.size).trans h.box,zz006 h.size a.size,h.bel.trans (a.mono (by have:=h.size;omega))⟩
def EP{f}{A}(h:∀j∈A,0<=f j)k:ap f (A.take k)<=ap f A:=by
 have e:ap f A=ap f (A.take k)+ap f (A.drop k):=by rw[<-jt,eT]
 have:0<=ap f (A.drop k):=cH λj a=>h j (kN a);omega
structure PK(w wr:AT)(n lb lo ob oo B:Nat)(h:zzb)(S:zzh)(k:Nat):Prop where
 len:dy wr lb lo n (λj=>if j∈S.take k then h j+1 else h j)
 open_:aO wr ob oo (cQ S)
 bel:Below B w wr
def PK.next{w wr}{n a lo e l B}{h}{S}{k}(H:PK w wr n a lo e l B h S k)(hS:S.Nodup)(f:k<S.length)i(hi:S[k]?.getD 0=i)(c:i<n)(m:a≠e)(b:B<=a):
 PK w (wr.setCell (aq a (lo+i)) (Iq (h i+1))) n a lo e l B h S (k+1):=by
 have g:=ec S k f;have d:=fK hS f;rw[hi]at g d;have p:∀j,j∈S.take (k+1)↔j∈S.take k\/j=i:=λj=>by rw[g];simp
 refine⟨?_,H.open_.other _ _ _ m,H.bel.setCell b _⟩;refine(H.len.set i (h i+1) c).congr λj o=>?_;grind[Nf]
def pD:(prog.info? 3).map (λi=>(i.zero,i.size,i.bytes))=some (some (Iq 0),1,8):=pt
def uT(n l lo lc wb wo wc d v oc B nq:Nat)(Mn Mx Wt g:zzb)(Q:zzh)(L V:Int)(w:AT)(hl:dy w l lo n g)(hw:fB w wb wo n Mn Mx Wt)(ho:aO w d v (cQ Q))(h1:l≠d)(h2:l≠wb)(h3:wb≠d)(zC:B<=l)(_K:B<=d)(XL:B<=w.heap.size)(hQ:Q.Nodup)(zF:∀j∈Q,j<n)(YF:Q≠[])(zO:Q.length=nq)(YY:nq<=1073741824)(hqc:nq<=oc)(hoc:oc<=maxLen)(hn:n<=1073741824)(hL:0<=L/\L<=1073741824)(hV:V=ap Wt Q)(zn:0<V/\V<=1152921504606846976)(zJ:∀j,0<=Wt j/\Wt j<=1073741824)(hg:∀j,0<=g j/\g j<=1073741824):
 Cw 337 #[.slice (some (aq l lo)) n lc,.slice (some (aq wb wo)) n wc,.slice (some (aq d v)) nq oc,Iq L,Iq V] w λe w'=>e=Rw (.tuple #[])/\
  ∃(S:zzh) (m:Nat),S.Perm Q/\S.Pairwise (λi k=>L*Wt k %V<L*Wt i %V\/(L*Wt i %V=L*Wt k %V/\i<k))/\(m:Int)=L-ap (λj=>L*Wt j/V) S/\
   dy w' l lo n (λj=>if j∈S then g j+L*Wt j/V+(if j∈S.take m then 1 else 0)else g j)/\Below B w w':=by
 have CS:=qH<|
  qj (cQ Q) d v oc nq w ho (by grind[dF]) dg;have HL:=qH<|hl;have HW:=qH<|hw;have zj:=qH<|zF;have HQ:Hid Q.Nodup:=hQ;have HV:=qH<|hV;have zk:=qH<|zJ;have HG:=qH<|hg;have zT:=qH<|zO;have zl:=hL.1;have zE:=hL.2;have zo:=zn.1;have _P:=zn.2;have TZ:=hl.1;have Zw:=hw.1;have hzo:=ho.1;have Vv:=run_make_row' (P:=prog) 26 3 (Iq 0) 8 underlying26 pD rfl .i64 .i64 n dg dg;clear hl hw ho zF hQ hV zJ hg zO hL zn;go_enter func337,ntmps337;go_wp2_with fail;refine Ut CS ?_;rintro w1 ⟨zw,H⟩;obtain⟨A,hA,hAp,hAs⟩:=xi HQ;rw[hA]at zw;have PZ:=H.size;have zU:=qH<|zw;have zR:=qH<|HL.grown H h1;have zX:=qH<|HW.grown H h3;have zQ:=qH<|(ac B w).grown H XL (λq X=>rn);have s:=qH<|hAp;have zP:=qH<|hAs;go_wp2;obtain⟨o,zq⟩:=af w1.heap.size;rw[zq];have D0:Hid (Ke w ((w1.alloc (.cells (madeCells #[Iq 0] n) 3)).alloc (.cells #[Sq o n n] 26)) n l lo wb wo d v B o Mn Mx Wt g A L V 0):=by
  have b1:Bq w1 ((w1.alloc (.cells (madeCells #[Iq 0] n) 3)).alloc (.cells #[Sq o n n] 26)):=((ac _ w1).alloc LE _).alloc At _;refine⟨(zR.below b1).congr λj _=>At,?_,zU.below b1,zX.below b1,?_,by simp;omega,zQ.trans (b1.mono dg)⟩
  .refine⟨by simp;omega,λj z=>⟨?_,?_⟩⟩;.rw[World.cell?_alloc_past _ _ _ (by simp;omega),World.cell?_alloc_at _ _ _ _ zq.symm];simp[madeCells,z,Nat.mod_one]
   .rw[World.frozen?_alloc_past _ _ _ (by simp;omega),World.frozen?_alloc_at _ _ _ _ zq.symm]
  .rw[World.cell?_alloc_at _ _ _ _ (by simp;omega)];rfl
 have Yu:l<o:=dg;have hwb:wb<o:=dg;have YP:d<o:=dg;have E:=qH<|s.length_eq.trans zT;have zh:Hid A.Nodup:=s.nodup_iff.2 HQ;have zB:=qH<|HV.trans (jW s.symm);have zD:B<=o:=dg;go_loopw[10,25] (λms i wr=>∃(k:Nat) (N:Int),ms=Iq N/\i=Iq k/\k<=nq/\0<=N/\N<=L/\Hid (N=L-ap (λj=>L*Wt j/V) (A.take k))/\Hid (Ke w wr n l lo wb wo d v B o Mn Mx Wt g A L V k)) (λ_ i _=>nq-(intOf i).toNat);.exact⟨0,L,rfl,rfl,LT,dg,dg,by simp[Hid,ap],D0⟩
 obtain⟨k,N,rfl,rfl,hk,Yy,Yz,HM,HD⟩:=hrel;by_cases zM:k<nq
 .have zN:(k:Int)<(nq:Int):=dg;have hd:=HD.out;have D:k<A.length:=by rw[E.out];exact zM
  obtain⟨i,hi⟩:=af (A[k]?.getD 0);have a:=zj i (s.mem_iff.1 (by rw[<-hi];exact td D));obtain⟨x,Y⟩:=af (Wt i);obtain⟨gi,T⟩:=af (g i);have u:=zk i;have R:=HG i;rw[Y]at u;rw[T]at R;have co:wr.cell? (aq d (v+k))=some (Iq (i:Int)):=by rw[(hd.open_.2 k (by rw[dF];exact D)).1,oH D,hi]
  have cw:wr.cell? (aq wb (wo+i*3+2))=some (Iq x):=by rw[(hd.want.2 i a).2.2,Y]
  have b:i∉A.take k:=by rw[<-hi];exact fK zh D
  have zY:wr.cell? (aq l (lo+i))=some (Iq gi):=by rw[(hd.len.2 i a).1];dsimp only;rw[if_neg b,T]
  have zZ:=(hd.len.2 i a).2;have _b:wr.cell? (aq o i)=some (Iq 0):=by have:=(hd.frac.2 i a).1;dsimp only at this;rw[if_neg b,b_]at this;exact this
  have _o:wr.frozen? (aq o i)=false:=by have:=(hd.frac.2 i a).2;rw[b_]at this;exact this
  have cb:=hd.box;have QZ:=hd.size;obtain⟨p,hp⟩:=af (L*x);have W:0<=p:=by rw[<-hp];exact ip zl u.1
  have Ss:p<=1152921504606846976:=by rw[<-hp];exact io (kI zE u.2 u.1 dg) (by decide)
  have Zs:=u.1;have Zt:=u.2;have H:=R.1;have _5:=R.2;obtain⟨q,X⟩:=af (p/V);obtain⟨r,hr⟩:=af (p %V);have hq0:0<=q:=by rw[<-X];exact CQ W dg
  have TL:q<=p:=by rw[<-X];exact Int.ediv_le_self _ W
  have VE:0<=r:=by rw[<-hr];exact CJ _ dg
  have zw:r<V:=by rw[<-hr];exact JN _ zo
  have TX:p.tdiv V=q:=by rw[xM W,X]
  have htm:p.tmod V=r:=by rw[Od W,hr]
  have zi:Hid (Ke w ((wr.setCell (aq l (lo+i)) (Iq (gi+q))).setCell (aq o (0+i)) (Iq r)) n l lo wb wo d v B o Mn Mx Wt g A L V (k+1)):=by have:=HD.next zh D i hi a h1 h2 Yu YP hwb zC zD;rw[T,Y,hp,X,hr]at this;exact this
  have zA:Hid (N-q=L-ap (λj=>L*Wt j/V) (A.take (k+1))):=qH<|by rw[ec A k D,fL,hi];have:=HM.out;rw[Y,hp,X];omega
  have YD:0<=N-q:=by rw[zA.out];have t1:=EP (f:=λj=>L*Wt j/V) (A:=A) (λj _=>CQ (ip zl (zk j).1) dg) (k+1);have t2:=(iB (L:=L) zB zo).1;omega
  have w1:IntKind.i64.wrap (gi+q)=gi+q:=IntWalk.i64_in _ ⟨dg,dg⟩;have w2:IntKind.i64.wrap q=q:=IntWalk.i64_in _ ⟨dg,dg⟩;have w3:IntKind.i64.wrap r=r:=IntWalk.i64_in _ ⟨dg,dg⟩;have w4:IntKind.i64.wrap p=p:=IntWalk.i64_in _ ⟨dg,dg⟩;have XV:V≠0:=dg;clear hd u R b Y T hi HM HD;go_wp2_with fail;go_big_region;go_wp2_with fail;go_big_region;go_wp2;go_roundw;.refine⟨k+1,N-q,rfl,by go_num,dg,dg,dg,zA,?_⟩;have:=zi.out;rw[b_]at this;exact this.below ⟨rfl,rfl,rfl,At,λ_ _=>rfl⟩ zD
  .simp[intOf];omega
 .have Vk:¬(k:Int)<(nq:Int):=dg;obtain rfl:k=nq:=dg;have hd:=HD.out;have J:=im (by rw[E.out];omega);obtain⟨K,zr⟩:∃K:Nat->Int,(λj=>if j∈A.take k then L*Wt j %V else 0)=K:=⟨_,rfl⟩;obtain⟨hh,zu⟩:∃hh:Nat->Int,(λj=>if j∈A.take k then g j+L*Wt j/V else g j)=hh:=⟨_,rfl⟩;have I:=hd.len;have t:=hd.frac;rw[zu]at I;rw[zr]at t;have hF:∀j,j<n->((List.range n).map K)[j]?.getD 0=K j:=λj z=>by simp[z]
  have O:((List.range n).map K).length=n:=At;have zx:=λj z=>zj j (s.mem_iff.1 z);have HS:Hid (Cw 352 #[.slice (some (aq d v)) k oc,.func (.func 355) #[] #[Pq (o+1)]] wr λe w'=>e=Rw (.tuple #[])/\Sorted wr w' d v (ry (λx=>((List.range n).map K)[x.toNat]?.getD 0)) [] (cQ A) []):=by
   refine jr 355 #[Pq (o+1)] (enters_of func355 pt rfl) (λi k=>gQ (((List.range n).map K)[k.toNat]?.getD 0) (((List.range n).map K)[i.toNat]?.getD 0)) (cQ A) (ry (λx=>((List.range n).map K)[x.toNat]?.getD 0)) (IF _ _) wr d v oc ?_ (cQ A) wr k (cT _ _) hd.open_ (λx Y=>Y) (wE zP) (by rw[dF];exact E) dg;refine Du _ (o+1) o 0 n d wr (by rw[O];exact hd.box) (λj z=>?_) _ ?_ dg dg dg;.rw[O]at z;rw[hF j z];exact(t.2 j z).1
   .intro x Y;obtain⟨j,rfl,z⟩:=lO Y;exact⟨j,rfl,by rw[O];exact zx j z⟩
  have ze:Hid (∀w2,Sorted wr w2 d v (ry (λx=>((List.range n).map K)[x.toNat]?.getD 0)) [] (cQ A) []->∃S:List Nat,S.Perm A/\S.Pairwise (λi k=>L*Wt k %V<L*Wt i %V\/(L*Wt i %V=L*Wt k %V/\i<k))/\PK w w2 n l lo d v B hh S 0/\wr.heap.size<=w2.heap.size):=by
   rintro w2 ⟨⟨M,hp,zv,YZ⟩,zt⟩;obtain⟨S,rfl,hs⟩:=mM hp;refine⟨S,hs,?_,⟨?_,by simpa using YZ,?_⟩,zt.size⟩
   .unfold cQ at zv;rw[JQ]at zv;refine List.Pairwise.imp_of_mem ?_ zv;intro i j hi z h;have zK:=hs.mem_iff.1 hi;have zL:=hs.mem_iff.1 z;simp only[ry,iO,hF i (zx i zK),hF j (zx j zL)]at h;rw[<-zr]at h;dsimp only at h;rw[J,if_pos zK,if_pos zL]at h;rcases h with h|⟨h,h'⟩;.exact .inl h
    .exact .inr ⟨h,dg⟩
   .exact(I.grown zt h1).congr λj _=>At
   .exact hd.bel.grown zt (by have:=hd.size;omega) (λq X=>by injection X with X;omega)
  obtain⟨m,hm⟩:∃m:Nat,N=(m:Int):=⟨N.toNat,dg⟩;subst hm;have YD:(m:Int)<(k:Int):=by have:=(iB (L:=L) zB zo).2;have e:=HM.out;rw[J]at e;rw[<-e,E.out]at this;omega
  have zS:Hid ((m:Int)=L-ap (λj=>L*Wt j/V) A):=by have:=HM.out;rw[J]at this;exact this
  have zy:Hid (∀j,hh j=if j∈A then g j+L*Wt j/V else g j):=λj=>by rw[<-zu];dsimp only;rw[J]
  have Yj:Hid (∀j,0<=hh j/\hh j<=2305843009213693952):=λj=>by rw[zy j];have a1:=HG j;have a2:=zk j;have a3:=ip zl a2.1;have a4:L*Wt j<=1152921504606846976:=io (kI zE a2.2 a2.1 dg) (by decide);have a5:0<=L*Wt j/V:=CQ a3 dg;have a6:L*Wt j/V<=L*Wt j:=Int.ediv_le_self _ a3;split<;>omega
  have QZ:=hd.size;have hmc:(m:Int)<=(oc:Int):=dg;clear hd I t zu zr J hF O HM HD;go_wp2_with fail;refine Ut HS ?_;rintro w2 hS;obtain⟨S,zG,zH,hS3,_O⟩:=ze w2 hS;have C:=qH<|zG;have zV:=qH<|zH;have HE:=qH<|hS3;clear hS zG zH hS3 ze HS;go_wp2;go_loopw[64] (λi wr=>∃c:Nat,i=Iq c/\c<=m/\Hid (PK w wr n l lo d v B hh S c)) (λi _=>m-(intOf i).toNat);.exact⟨0,rfl,LT,HE⟩
  obtain⟨c,rfl,hc,F⟩:=hrel;have zI:=C.length_eq.trans E;by_cases zM:c<m
  .have zN:(c:Int)<(m:Int):=dg;have hd:=F.out;have G:c<S.length:=dg;obtain⟨i,hi⟩:=af (S[c]?.getD 0);have a:i<n:=by have:=td G;rw[hi]at this;exact zj i (s.mem_iff.1 (C.mem_iff.1 this))
   have Yk:(i:Int)<(n:Int):=dg;have zm:=C.nodup_iff.2 zh;have co:wr.cell? (aq d (v+c))=some (Iq (i:Int)):=by rw[(hd.open_.2 c (by rw[dF];exact G)).1,oH G,hi]
   obtain⟨y,hy⟩:=af (hh i);have Z:=Yj i;rw[hy]at Z;have VM:=Z.1;have VN:=Z.2;have b:i∉S.take c:=by rw[<-hi];exact fK zm G
   have zY:wr.cell? (aq l (lo+i))=some (Iq y):=by rw[(hd.len.2 i a).1];dsimp only;rw[if_neg b,hy]
   have zZ:=(hd.len.2 i a).2;have zi:Hid (PK w (wr.setCell (aq l (lo+i)) (Iq (y+1))) n l lo d v B hh S (c+1)):=by have:=hd.next zm G i hi a h1 zC;rw[hy]at this;exact this
   clear hd Z b hi hy zm zI F;go_wp2;go_roundw;.exact⟨c+1,by go_num,dg,zi⟩
   .simp[intOf];omega
  .have Vk:¬(c:Int)<(m:Int):=dg;obtain rfl:c=m:=dg;have HZ:Hid (∃(S:zzh) (m:Nat),S.Perm Q/\S.Pairwise (λi k=>L*Wt k %V<L*Wt i %V\/(L*Wt i %V=L*Wt k %V/\i<k))/\(m:Int)=L-ap (λj=>L*Wt j/V) S/\
    dy wr l lo n (λj=>if j∈S then g j+L*Wt j/V+(if j∈S.take m then 1 else 0)else g j)/\Below B w wr):=by
    refine⟨S,c,C.trans s,zV,zS.trans (by rw[jW C.out]),F.len.congr λj z=>?_,F.bel⟩;have U:=zy j;have zg:j∈S↔j∈A:=C.mem_iff;by_cases e:j∈S;.rw[if_pos (zg.1 e)]at U;rw[if_pos e,U];split<;>omega
    .rw[if_neg (λh=>e (zg.2 h))]at U;rw[if_neg e,if_neg (λh=>e (nU h)),U]
   clear zI F;go_wp2;go_end0;obtain⟨S',m',z1,z2,z3,z4,z5⟩:=HZ.out;exact⟨rfl,S',z1,z2,m',z3,z4,z5⟩
structure Ki(w wr:AT)(n lb lo wb wo g B:Nat)(Mn Mx Wt:zzb)(Q:zzh)(c:Nat):Prop where
 len:dy wr lb lo n (λj=>if j∈Q.take c then Mx j else Mn j)
 want:fB wr wb wo n Mn Mx Wt
 open_:aO wr g 0 (cQ Q)
 bel:Below B w wr
def Ki.below{w W W'}{n lb lo b d g B}{Mn Mx Wt}{Q}{c}(h:Ki w W n lb lo b d g B Mn Mx Wt Q c)(a:Bq W W')(e:B<=w.heap.size):Ki w W' n lb lo b d g B Mn Mx Wt Q c:=
 ⟨h.len.below a,h.want.below a,h.open_.below a,h.bel.trans (a.mono (aA e h.bel.size))⟩
def Ki.next{w wr}{n a lo f l g B}{Mn Mx Wt}{Q}{c}(H:Ki w wr n a lo f l g B Mn Mx Wt Q c)(p:Q.Nodup)(h:c<Q.length)i(hi:Q[c]?.getD 0=i)(d:i<n)(m:a≠g)(o:a≠f)(b:B<=a):
 Ki w (wr.setCell (aq a (lo+i)) (Iq (Mx i))) n a lo f l g B Mn Mx Wt Q (c+1):=by
 have k:=ec Q c h;have e:=fK p h;rw[hi]at k e;have r:∀j,j∈Q.take (c+1)↔j∈Q.take c\/j=i:=λj=>by rw[k];simp
 refine⟨?_,H.want.other _ _ _ o,H.open_.other _ _ _ m,H.bel.setCell b _⟩;refine(H.len.set i (Mx i) d).congr λj q=>?_;grind[Nf]
structure oe(Mn Mx Wt:zzb)(Q:zzh)(L0:Int)(c:Nat)(L V:Int):Prop where
 left:L=L0-ap (λj=>Mx j-Mn j) (Q.take c)
 pos:0<=L
 weight:V=ap Wt (Q.drop c)
 full:∀j∈Q.take c,(Mx j-Mn j)*V<=L*Wt j
def kU(A:zzh)k(a:k<A.length):A.drop k=(A[k]?.getD 0)::A.drop (k+1):=by simp_all
def xj{R}{Q:zzh}(h:Q.Pairwise R){c}(b:c<Q.length):(∀j∈Q.take c,R j (Q[c]?.getD 0))/\(∀k∈Q.drop (c+1),R (Q[c]?.getD 0) k):=by
 have e:Q=Q.take c++((Q[c]?.getD 0)::Q.drop (c+1)):=by rw[<-kU Q c b,eT]
 have a:(Q.take c++((Q[c]?.getD 0)::Q.drop (c+1))).Pairwise R:=by rw[<-e];exact h
 rw[ig]at a;refine⟨λj d=>a.2.2 j d _ At,?_⟩;exact(JZ.1 a.2.1).1
def oe.next{Mn Mx Wt}{Q}{k}{c}{L V}(h:oe Mn Mx Wt Q k c L V)(n:∀j,0<=Mx j-Mn j)(o:Q.Pairwise (Qm Mn Mx Wt))(f:∀j∈Q,0<Wt j)(b:c<Q.length)i(hi:Q[c]?.getD 0=i)(d:(Mx i-Mn i)*V<=L*Wt i):oe Mn Mx Wt Q k (c+1) (L-(Mx i-Mn i)) (V-Wt i):=by
 have l:=xj o b;rw[hi]at l;have hd:=kU Q c b;rw[hi]at hd;have p:=ec Q c b;rw[hi]at p;have g:=f i rn;have m:V=ap Wt (i::Q.drop (c+1)):=by rw[<-hd];exact h.weight
 have:=DU (A:=Q.take c) (B:=Q.drop (c+1)) (i:=i) (L:=L) (W:=V) n (λj a=>⟨f j (nU a),l.1 j a⟩) g (λj a=>f j (kN a)) m d;refine⟨?_,this.1,?_,?_⟩;.have e:=h.left;grind[fL]
 all_goals grind[bD]
def oe.stop{Mn Mx Wt}{Q}{l}{c}{L V}(h:oe Mn Mx Wt Q l c L V)(n:Q.Pairwise (Qm Mn Mx Wt))(b:∀j∈Q,0<Wt j)(f:c<Q.length)i(hi:Q[c]?.getD 0=i)(a:L*Wt i<(Mx i-Mn i)*V):0<V/\∀k∈Q.drop c,L*Wt k<(Mx k-Mn k)*V:=by
 have e:=xj n f;rw[hi]at e;have hd:=kU Q c f;rw[hi]at hd;have d:=b i rn;have p:V=Wt i+ap Wt (Q.drop (c+1)):=by rw[<-bD,<-hd];exact h.weight
 have o:0<=ap Wt (Q.drop (c+1)):=cH λj m=>Int.le_of_lt (b j (kN m));refine⟨dg,?_⟩;rw[hd];exact Ej d dg (λk g=>⟨b k (kN g),e.2 k g⟩) a
def oe.poured_all{Mn Mx Wt}{Q}{n}{r L V}(h:oe Mn Mx Wt Q (r-ap Mn (List.range n)) Q.length L V)(a:Q.Perm (cJ Wt n)):bK n Mn Mx Wt r (λj=>if j∈Q then Mx j else Mn j) Q [] L V 0:=by
 have e:Q.take Q.length=Q:=jB;refine⟨by rw[iP];exact a,?_,h.pos,by have:=h.weight;grind,by have:=h.full;rwa[e]at this,At,λh=>(h rfl).elim,λ_=>rfl,List.Pairwise.nil,λj b=>?_⟩;.have:=h.left;grind
 grind
def oe.poured_some{Mn Mx Wt}{Q}{n c}{r L V}(h:oe Mn Mx Wt Q (r-ap Mn (List.range n)) c L V)(g:Q.Perm (cJ Wt n))S(m:Nat)(hS:S.Perm (Q.drop c))(p:∀k∈Q.drop c,L*Wt k<(Mx k-Mn k)*V)(a:Q.drop c≠[])(l:(m:Int)=L-ap (λj=>L*Wt j/V) S)(q:S.Pairwise (λi k=>L*Wt k %V<L*Wt i %V\/(L*Wt i %V=L*Wt k %V/\i<k))):
 bK n Mn Mx Wt r (λj=>if j∈S then(if j∈Q.take c then Mx j else Mn j)+L*Wt j/V+(if j∈S.take m then 1 else 0)else(if j∈Q.take c then Mx j else Mn j)) (Q.take c) S L V m:=by
 have b:(Q.take c++S).Perm Q:=by
  conv=>rhs;rw[<-List.take_append_drop c Q]
  exact List.Perm.append_left _ hS
 have o:=g.nodup_iff.2 (sN.filter _);have d:∀j∈Q.take c,j∉S:=λj s t=>rn;refine⟨b.trans g,h.left,h.pos,h.weight.trans (jW hS.symm),h.full,λj f=>p j (hS.mem_iff.1 f),λ_=>l,λe=>(a (by simp_all)).elim,q,λj f=>?_⟩;grind
def ly(w w':AT)(n lb lo B:Nat)(Mn Mx Wt:zzb)(r:Int):Prop:=
 ∃(a:zzb) (A S:zzh) (L V:Int) (m:Nat),bK n Mn Mx Wt r a A S L V m/\dy w' lb lo n a/\Below B w w'
def MY:Fd->Nat
 |.slice _ n _=>n
 |_=>0
def IX(n b lo lc D G wc B:Nat)(Mn Mx Wt:zzb)(r T:Int)(w:AT)(hl:dy w b lo n Mn)(hw:fB w D G n Mn Mx Wt)(h2:b≠D)(zk:B<=b)(M:B<=w.heap.size)(hn:n<=1048576)(hM:∀j,0<=Mn j/\Mn j<=Mx j/\Mx j<=1048576/\0<=Wt j/\Wt j<=1048576)(hL:T=r-ap Mn (List.range n))(zg:0<=T/\T<=1073741824):
    Cw 307 #[.slice (some (aq b lo)) n lc,.slice (some (aq D G)) n wc,Iq T] w λe w'=>e=Rw (.tuple #[])/\ly w w' n b lo B Mn Mx Wt r:=by
  have CO:=qH<|
    El n D G wc Mn Mx Wt w hw (λj=>rn) dg;have HL:=qH<|hl;have HW:=qH<|hw;have HM:=qH<|hM;have zj:=qH<|hL;have TZ:=hl.1;have Zw:=hw.1;have zl:=zg.1;have _M:=zg.2;clear hl hw hM hL zg;go_enter func307,ntmps307;go_wp2_with fail;refine CO.mono ?_;rintro e w1 ⟨v,Q,rfl,hO,hp,hs,hb⟩;have HP:=qH<|hp;have HS:=qH<|hs;have X:=qH<|HL.below hb;have ze:=qH<|HW.below hb;have W:=qH<|hb.mono M;have I:Hid (∀j∈Q,j<n/\0<Wt j):=λj N=>mF (hp.mem_iff.1 N);have Y:Hid Q.Nodup:=hp.nodup_iff.2 (sN.filter _);rcases hO with⟨hq,rfl⟩|⟨YF,g,cp,rfl,_6,zM,_V,zN⟩
  . have HZ:Hid (ly w w1 n b lo B Mn Mx Wt r):=by
      refine⟨_,Q,[],T,0,0,oe.poured_all ⟨?_,zl,?_,?_⟩ HP,X.congr λj _=>by simp[hq],W⟩;.rw[hq];simp[ap];exact zj
      .rw[hq];rfl
      .rw[hq];simp
    go_wp2;go_loop[7,16] (λt i=>t=Iq 0/\i=Iq 0) (λ_ _=>0);.grind
    obtain⟨rfl,rfl⟩:=hrel;go_wp2;go_loop[2,6,7] (λt o v=>t=Iq T/\o=.slice none 0 0/\v=Iq 0) (λ_ _ _=>0);.grind
    obtain⟨rfl,rfl,rfl⟩:=hrel;go_wp2;go_end0;exact⟨rfl,HZ⟩
  . obtain⟨nq,zw⟩:=af Q.length;have H:=qH<|zw;have Z:=qH<|zN;have TR:nq<=n:=by have:=HP.length_eq;have:=mE Wt n;omega
    rw[zw]at zM|-;have zv:b≠g:=dg;have zO:D≠g:=dg;have zC:B<=g:=dg;go_wp2;go_loop[7,16] (λt i=>∃(k:Nat) (s:Int),t=Iq s/\i=Iq k/\k<=nq/\0<=s/\s<=(k:Int)*1048576/\Hid (s=ap Wt (Q.take k))) (λ_ i=>nq-(intOf i).toNat);.exact⟨0,0,rfl,rfl,LT,dg,dg,by simp[Hid,ap]⟩
    obtain⟨k,s,rfl,rfl,hk,VH,Y4,K⟩:=hrel;by_cases zK:k<nq
    . have zR:(k:Int)<(nq:Int):=dg;have zu:k<Q.length:=by rw[H.out];exact zK
      obtain⟨i,hi⟩:=af (Q[k]?.getD 0);have f:=(I i rn).1;obtain⟨x,F⟩:=af (Wt i);have C:=HM i;rw[F]at C;have Zs:=C.2.2.2.1;have Zt:=C.2.2.2.2;have co:w1.cell? (aq g k)=some (Iq (i:Int)):=by have:=(Z.2 k (by grind[dF])).1;rw[oH zu,hi,b_]at this;exact this
      have cw:w1.cell? (aq D (G+i*3+2))=some (Iq x):=by rw[(ze.2 i f).2.2,F]
      have zB:Hid (s+x=ap Wt (Q.take (k+1))):=qH<|by rw[ec Q k zu,fL,hi,F,K.out]
      have _':((k+1:Nat):Int)*1048576=(k:Int)*1048576+1048576:=dg;clear C hi F K;go_wp2;go_round;.exact⟨k+1,s+x,rfl,by go_num,dg,dg,dg,zB⟩
      grind[intOf]
    . have Vk:¬(k:Int)<(nq:Int):=dg;obtain rfl:nq=k:=dg;have N0:Hid (oe Mn Mx Wt Q (r-ap Mn (List.range n)) 0 T s):=by refine⟨by simp[ap];exact zj,zl,?_,At⟩;rw[K.out,im dg,List.drop_zero]
      have P0:Hid (Ki w w1 n b lo D G g B Mn Mx Wt Q 0):=⟨X.congr λj _=>At,ze,Z,W⟩;clear K X ze Z W;go_wp2;have zL:(nq:Int)*1048576<=1099511627776:=dg;go_loopw[2,6,7] (λl o v wr=>∃(c:Nat) (L V:Int) (p:zze) (d e:Nat),l=Iq L/\o=.slice p d e/\v=Iq V/\c+d=nq/\c+e=cp/\0<=L/\L<=T/\0<=V/\V<=1099511627776/\Hid (0<d->p=some (aq g c))/\Hid (oe Mn Mx Wt Q (r-ap Mn (List.range n)) c L V)/\Hid (Ki w wr n b lo D G g B Mn Mx Wt Q c)) (λ_ o _ _=>MY o);.grind
      obtain⟨c,L,V,p,d,e,rfl,rfl,rfl,_T,_U,zm,_N,zn,zF,zy,R,E⟩:=hrel;by_cases hd:0<d
      . have _Y:(0:Int)<(d:Int):=dg;obtain rfl:=zy hd;have a:=E.out;have z:c<Q.length:=by rw[H.out];omega
        obtain⟨i,hi⟩:=af (Q[c]?.getD 0);have zJ:i∈Q:=by rw[<-hi];exact td z
        have f:=(I i zJ).1;have zQ:(i:Int)<(n:Int):=dg;obtain⟨x,F⟩:=af (Wt i);obtain⟨mn,q⟩:=af (Mn i);obtain⟨mx,u⟩:=af (Mx i);have C:=HM i;rw[F,q,u]at C;obtain⟨XZ,X0,X8,zo,zH⟩:=C;have co:wr.cell? (aq g c)=some (Iq (i:Int)):=by have:=(a.open_.2 c (by rw[dF];exact z)).1;rw[oH z,hi,b_]at this;exact this
        have zY:wr.cell? (aq D (G+i*3))=some (Iq mn):=by rw[(a.want.2 i f).1,q]
        have zZ:wr.cell? (aq D (G+i*3+1))=some (Iq mx):=by rw[(a.want.2 i f).2.1,u]
        have _d:wr.cell? (aq D (G+i*3+2))=some (Iq x):=by rw[(a.want.2 i f).2.2,F]
        have J:i∉Q.take c:=by rw[<-hi];exact fK Y z
        have zX:wr.cell? (aq b (lo+i))=some (Iq mn):=by rw[(a.len.2 i f).1];dsimp only;rw[if_neg J,q]
        have _p:=(a.len.2 i f).2;obtain⟨U,zh⟩:=af (mx-mn);have zr:0<=U:=dg;have zt:U<=1048576:=dg;obtain⟨pv,P⟩:=af (U*V);have zU:0<=pv:=by rw[<-P];exact ip zr zn
        have zV:pv<=1152921504606846976:=by rw[<-P];exact io (kI zt zF zn dg) (by decide)
        obtain⟨lx,O⟩:=af (L*x);have zS:0<=lx:=by rw[<-O];exact ip zm zo
        have zT:lx<=1125899906842624:=by rw[<-O];exact io (kI (show L<=1073741824 by omega) zH zo dg) (by decide)
        have wdf:IntKind.i64.wrap U=U:=IntWalk.i64_in _ ⟨dg,dg⟩;by_cases zI:lx<pv
        . have zi:=R.stop HS (λj N=>(I j N).2) z i hi (by rw[F,u,q,zh,P,O];exact zI);have zE:=zi.1;have y:=a.below (W':=wr.drew) ⟨rfl,rfl,rfl,LE,λ_ _=>rfl⟩ M;have A:(Q.drop c).length=d:=by rw[dq,H.out];omega
          have CD:Hid (Cw 337 #[.slice (some (aq b lo)) n lc,.slice (some (aq D G)) n wc,.slice (some (aq g c)) d e,Iq L,Iq V] wr.drew λe w'=>e=Rw (.tuple #[])/\
              ∃(S:zzh) (m:Nat),S.Perm (Q.drop c)/\S.Pairwise (λi k=>L*Wt k %V<L*Wt i %V\/(L*Wt i %V=L*Wt k %V/\i<k))/\(m:Int)=L-ap (λj=>L*Wt j/V) S/\
                dy w' b lo n (λj=>if j∈S then(if j∈Q.take c then Mx j else Mn j)+L*Wt j/V+(if j∈S.take m then 1 else 0)else(if j∈Q.take c then Mx j else Mn j))/\Below B wr.drew w'):=by
            refine uT n b lo lc D G wc g c e B d Mn Mx Wt _ (Q.drop c) L V wr.drew y.len y.want ?_ zv h2 zO zk zC (aA M y.bel.size) (Y.sublist (List.drop_sublist _ _)) (λj N=>(I j (kN N)).1) (by intro h;rw[h]at A;simp at A;omega) A dg dg dg dg ⟨zm,dg⟩ R.weight ⟨zE,dg⟩ (λj=>by have:=HM j;omega) (λj=>by have:=HM j;split<;>omega);refine⟨y.open_.1,λj N=>?_⟩;rw[dF,A]at N;have h1:=y.open_.2 (c+j) (by rw[dF,H.out];omega);rw[b_]at h1;refine⟨h1.1.trans ?_,h1.2⟩;have e1:cQ (Q.drop c)=(cQ Q).drop c:=by unfold cQ;rw[List.map_drop]
            rw[e1,CY]
          have HZ:Hid (∀w2,(∃(S:zzh) (m:Nat),S.Perm (Q.drop c)/\S.Pairwise (λi k=>L*Wt k %V<L*Wt i %V\/(L*Wt i %V=L*Wt k %V/\i<k))/\(m:Int)=L-ap (λj=>L*Wt j/V) S/\
                dy w2 b lo n (λj=>if j∈S then(if j∈Q.take c then Mx j else Mn j)+L*Wt j/V+(if j∈S.take m then 1 else 0)else(if j∈Q.take c then Mx j else Mn j))/\Below B wr.drew w2)->ly w w2 n b lo B Mn Mx Wt r):=by rintro w2 ⟨S,m,q1,q2,q3,q4,q5⟩;exact⟨_,Q.take c,S,L,V,m,R.poured_some HP S m q1 zi.2 (by intro h;rw[h]at A;simp at A;omega) q3 q2,q4,y.bel.trans q5⟩
          clear zi y A a J hi F q u R E;go_wp2_with fail;go_big_region;go_wp2_with fail;refine CD.mono ?_;rintro e2 w2 ⟨rfl,hq⟩;have HF:=qH<|HZ w2 hq;clear hq HZ;go_wp2;go_end0;exact⟨rfl,HF⟩
        . have hNx:=R.next (λj=>by have:=HM j;omega) HS (λj N=>(I j N).2) z i hi (by rw[F,u,q,zh,P,O];omega);rw[F,u,q,zh]at hNx;have zx:=qH<|hNx;have zD:=hNx.pos;have zG:0<=V-x:=by rw[hNx.weight];exact cH λj _=>(HM j).2.2.2.1
          have zA:Hid (Ki w (wr.setCell (aq b (lo+i)) (Iq (mn+U))) n b lo D G g B Mn Mx Wt Q (c+1)):=by have:=a.next Y z i hi f zv h2 zk;rw[u]at this;have e:mn+U=mx:=dg;rw[e];exact this
          have zP:¬pv>lx:=dg;have _1:(1:Int)<=(e:Int):=dg;have _0:(1:Int)<=(d:Int):=dg;clear hNx a J hi F q u R E;go_wp2_with fail;go_big_region;go_wp2_with fail;refine⟨⟨c+1,L-U,V-x,_,d-1,e-1,rfl,rfl,rfl,dg,dg,zD,dg,zG,dg,?_,zx,?_⟩,?_⟩;.intro h;rw[if_neg dg]
          .exact zA.below ⟨rfl,rfl,rfl,LE,λ_ _=>rfl⟩ M
          .show d-1<d;omega
      . obtain rfl:d=0:=dg;have zq:c=Q.length:=by rw[H.out];omega
        have HF:Hid (ly w wr n b lo B Mn Mx Wt r):=by have h1:=R.out;have h2:=E.len;rw[zq]at h1 h2;exact⟨_,Q,[],L,V,0,h1.poured_all HP,h2.congr λj _=>by rw[jB],E.bel⟩
        clear zq R E;go_wp2;go_end0;exact⟨rfl,HF⟩
def rm(jm NL:Int)(n:Nat):Int:=max 0 (cl jm-cl NL*((n:Int)-1))
def Et a b n:0<=rm a b n:=by grind[rm]
def N8 a b n(e:0<n):rm a b n<=100000:=by have c:=eO a;have d:0<=cl b*((n:Int)-1):=ip (eO b).1 dg;grind[rm]
structure uq(n:Nat)(mn:zzb)(r:Int)(g:zzb):Prop where
 bd:∀j,j<n->0<=g j/\g j<=mn j
 sum:ap g (List.range n)=r
 behind:∀i k,i<k->k<n->g i<mn i->g k=0
def cO(n:Nat)(mn mx wt:zzb)(r:Int)(g:zzb):Prop:=
 (r<ap mn (List.range n)/\uq n mn r g)\/(ap mn (List.range n)<=r/\∃(A S:zzh) (L V:Int) (m:Nat),bK n mn mx wt r g A S L V m)
theorem I4 n(f:zzb)j(a:j<n):((List.range n).map f)[j]?.getD 0=f j:=by simp[a]
def lf n(f:zzb):((List.range n).map f).length=n:=At
def dy.irow{W}{a off n}{g}(h:dy W a off n g):aO W a off ((List.range n).map g):=
 ⟨h.1,λj b=>by rw[lf]at b;rw[I4 n g j b];exact h.2 j b⟩
def aO.frow{W}{a off n}{d}(h:aO W a off d)(c:d.length=n):dy W a off n (λj=>d[j]?.getD 0):=
 ⟨h.1,λj b=>h.2 j dg⟩
theorem ES(d:zzc):ap (λj=>d[j]?.getD 0) (List.range d.length)=d.sum:=by unfold ap;congr 1;refine List.ext_getElem At λj a b=>?_;grind
def Kr n b(p:∀j,0<=b j)r a(q:0<=r)(h:a=ap b (List.range n)-r)(c:0<=a):uq n b r (λj=>(gb ((List.range n).map b) n a [])[j]?.getD 0)/\(gb ((List.range n).map b) n a []).length=n:=by have o:=lf n b;have s:((List.range n).map b).sum=ap b (List.range n):=rfl;have t:((List.range n).map b).take n=(List.range n).map b:=im dg;obtain⟨X,e,g,u,w,v,_⟩:=va ((List.range n).map b) (λi hi=>rn) n a [] dg c rn;rw[iP]at e;rw[e];refine⟨⟨λj l=>?_,?_,λi k d m f=>?_⟩,g⟩;all_goals grind[I4,ES]
def oC(w w':AT)(lb n:Nat)(mn mx wt:zzb)(r:Int):Prop:=w.heap.size<=lb/\(∃g,dy w' lb 0 n g/\cO n mn mx wt r g)/\Bq w w'
def As(p:zze)(n b:Nat)(a c:Int)(w:AT)(d:n=0\/200<n)(f:n<=5864062014805):
 Cw 258 #[Iq a,Iq c,.slice p n b] w λe w'=>e=Rw (.slice none 0 0)/\w'=w:=by
 rcases d with rfl|d;.go_enter func258,ntmps258;go_wp2;go_ret;simp_all
 .have g:(200:Int)<(n:Int):=dg;have h:(n:Int)≠0:=dg;go_enter func258,ntmps258;go_wp2;go_ret;simp_all
structure Qo(w wr:AT)(cw lb n k:Nat)(mn mx wt:zzb):Prop where
 len:dy wr lb 0 n (λj=>if j<k then mn j else 0)
 want:fB wr cw 0 n mn mx wt
 bel:Bq w wr
def Qo.next{w wr}{c a n k}{b f g}(h:Qo w wr c a n k b f g)(l:k<n)(e:a≠c)(i:w.heap.size<=a)o:Qo w ((wr.setCell (aq a (0+k)) (Iq (b k))).alloc o) c a n (k+1) b f g:=by
 have d:Below (wr.setCell (aq a (0+k)) (Iq (b k))).heap.size (wr.setCell (aq a (0+k)) (Iq (b k))) ((wr.setCell (aq a (0+k)) (Iq (b k))).alloc o):=No;refine⟨((h.len.set k (b k) l).below d).congr λj m=>?_,(h.want.other _ _ _ e).below d,(h.bel.setCell i _).trans (d.mono ?_)⟩;.grind[Nf]
 .have:=h.bel.size;simp_all
def EK(n N off zi:Nat)(a b c:zzb)(d u:Int)(w:AT)(h:fB w N off n a b c)(zr:0<n)(hn:n<=200):
 Cw 258 #[Iq d,Iq u,.slice (some (aq N off)) n zi] w λe w'=>∃t,e=Rw (Sq t n n)/\oC w w' t n (λj=>cl (a j)) (λj=>fC (a j) (b j)) (λj=>cl (c j)) (rm d u n):=by
 have CW:=qH<|clampedWants_any n N off zi a b c w h dg;have CC:=qH<|shClamped_any;obtain⟨p,U⟩:∃f:Nat->Int,(λj=>cl (a j))=f:=⟨_,rfl⟩;obtain⟨J,W⟩:∃f:Nat->Int,(λj=>fC (a j) (b j))=f:=⟨_,rfl⟩;obtain⟨K,Z⟩:∃f:Nat->Int,(λj=>cl (c j))=f:=⟨_,rfl⟩;have HM:Hid (∀j,0<=p j/\p j<=J j/\J j<=100000/\0<=K j/\K j<=100000):=λj=>by rw[<-U,<-W,<-Z];simp_all[eO,jK]
 rw[U,W,Z]at CW|-;obtain⟨r,hr⟩:=af (rm d u n);have zl:=Et d u n;have zu:=N8 d u n zr;rw[hr]at zl zu|-;unfold rm at hr;obtain⟨cr,R⟩:=af (cl d);obtain⟨cg,Q⟩:=af (cl u);have z:=eO d;have s:=eO u;have C1:=qH<|λw=>by have:=CC d w;rw[R]at this;exact this
 have C2:=qH<|λw=>by have:=CC u w;rw[Q]at this;exact this
 rw[R]at hr z;rw[Q]at hr s;obtain⟨pr,X⟩:=af (cg*((n:Int)-1));have zy:0<=pr:=by rw[<-X];exact ip s.1 dg
 have zA:pr<=20000000:=by rw[<-X];exact io (kI s.2 (show(n:Int)-1<=200 by omega) dg dg) (by decide)
 rw[X]at hr;have zG:=z.1;have zH:=z.2;have zI:=s.1;have zJ:=s.2;have v:=run_make_row' (P:=prog) 26 3 (Iq 0) 8 underlying26 pD rfl .i64 .i64 n dg dg;have zt:¬(n:Int)=0:=dg;have zP:¬(200:Int)<(n:Int):=dg;have zQ:((n:Int)==0)=false:=by simpa using zt
 clear h U W Z R Q z s CC;go_enter func258,ntmps258;go_wp2_with(first|(go_at_call 304;refine Ut CW ?_;rintro w1 ⟨F,q2⟩;fail)|(go_at_call 305;refine Ut (C1 _) ?_;rintro w5 rfl)|(go_at_call 305;refine Ut (C2 _) ?_;rintro w5 rfl));refine Ut CW ?_;rintro w1 ⟨F,q2⟩;have zg:=qH<|F;have ze:=qH<|q2;have zU:=F.1;clear F q2 CW;go_wp2_with(first|(go_at_call 305;refine Ut (C1 _) ?_;rintro w5 rfl)|(go_at_call 305;refine Ut (C2 _) ?_;rintro w5 rfl));obtain⟨t,H⟩:=af w1.heap.size;rw[H];have S0:Hid (Qo w (w1.alloc (.cells (madeCells #[Iq 0] n) 3)) w.heap.size t n 0 p J K):=by
  have b1:Bq w1 (w1.alloc (.cells (madeCells #[Iq 0] n) 3)):=(ac _ w1).alloc LE _;refine⟨⟨by simp;omega,λj hj=>⟨?_,?_⟩⟩,zg.below b1,ze.trans (b1.mono dg)⟩;.rw[World.cell?_alloc_at _ _ _ _ H.symm];simp[madeCells,hj,Nat.mod_one]
  .rw[World.frozen?_alloc_at _ _ _ _ H.symm]
 have zL:w.heap.size<t:=dg;have zq:Hid (∀k,ap p (List.range (k+1))=ap p (List.range k)+p k):=λk=>by rw[sO,fL]
 have zo:Hid (∀k,0<=ap p (List.range k)/\ap p (List.range k)<=(k:Int)*100000):=λk=>by
  refine⟨cH λj _=>(HM j).1,?_⟩;have:=iI (f:=p) (l:=List.range k) (b:=100000) λj _=>by have:=HM j;omega
  rw[JP]at this;exact this
 clear zg ze H v;go_loopw[8,36] (λl i wr=>∃(k:Nat) (x:Int),l=Iq x/\i=Iq k/\k<=n/\-20000000<=x/\x<=r/\Hid (x=r-ap p (List.range k))/\Hid (Qo w wr w.heap.size t n k p J K)) (λ_ i _=>n-(intOf i).toNat);.exact⟨0,r,rfl,rfl,LT,dg,dg,by simp[Hid,ap],S0⟩
 obtain⟨k,x,rfl,rfl,hk,zR,zS,M,HS⟩:=hrel;by_cases I:k<n
 .have zw:(k:Int)<(n:Int):=dg;have B:=HS.out;have zm:=zo (k+1);have Y:=zq k;have T:=B.want.2 k I;rw[b_]at T;obtain⟨a1,D⟩:=af (p k);obtain⟨a2,O⟩:=af (J k);obtain⟨a3,zj⟩:=af (K k);have v:=HM k;rw[D]at Y;rw[D,O]at v;rw[D,O,zj]at T;obtain⟨zC,zD,zE⟩:=T;have zV:=B.want.1;have zv:=B.len.1;have zB:wr.cell? (aq t k)=some (Iq 0):=by have:=(B.len.2 k I).1;dsimp only at this;rw[if_neg dg,b_]at this;exact this
  have zF:wr.frozen? (aq t k)=false:=by have:=(B.len.2 k I).2;rw[b_]at this;exact this
  have zh:Hid (x-a1=r-ap p (List.range (k+1))):=qH<|by rw[Y,M.out];omega
  have zT:-20000000<=x-a1:=by rw[zh.out];have:=zm.2;omega
  have HN:=qH<|λo=>by have:=B.next I dg dg o;rw[D,b_]at this;exact this
  have zM:=v.1;have zN:=v.2.1;have zO:=v.2.2.1;clear B zm Y D O zj v M HS;go_wp2;go_roundw;.exact⟨k+1,x-a1,rfl,by go_num,dg,dg,dg,zh,HN _⟩
  grind[intOf]
 .have zK:¬(k:Int)<(n:Int):=dg;obtain rfl:n=k:=dg;have B:=HS.out;have G:=B.len.congr λj hj=>by rw[if_pos hj]
  have zv:=B.len.1;have E:=B.bel;have zn:=E.size;by_cases zx:x<0
  .have CG:Hid (Cw 306 #[Sq t n n,Iq (-x)] wr λe w'=>e=Rw (.tuple #[])/\aO w' t 0 (gb ((List.range n).map p) n (-x) [])/\wr.grownBy w' (some t)):=by refine tE ((List.range n).map p) t 0 n (-x) wr n G.irow (lf n p) dg (λy hy=>?_) ⟨dg,dg⟩;obtain⟨j,_,rfl⟩:=kJ.1 hy;have:=HM j;omega
   have HF:Hid (∀C,aO C t 0 (gb ((List.range n).map p) n (-x) [])->wr.grownBy C (some t)->oC w C t n p J K r):=by intro C hi hg;have zk:=Kr n p (λj=>(HM j).1) r (-x) zl (by rw[M.out];omega) dg;refine⟨dg,⟨_,hi.frow zk.2,.inl ⟨?_,zk.1⟩⟩,E.grown hg zn (λq hq=>rn)⟩;have:=M.out;omega
   clear B G E M HS;go_wp2_with fail;refine Ut CG ?_;rintro C ⟨F,q2⟩;have HZ:=qH<|HF C F q2;clear F q2;go_wp2;go_ret;exact⟨t,rfl,HZ⟩
  .have CP:=qH<|
    IX n t 0 n w.heap.size 0 n w.heap.size p J K r x wr G B.want dg dg zn dg (λj=>by have:=HM j;omega) M ⟨dg,dg⟩;have HF:Hid (∀C,ly wr C n t 0 w.heap.size p J K r->oC w C t n p J K r):=by rintro C ⟨g,A,S,L,V,m,p1,p2,p3⟩;refine⟨dg,⟨g,p2,.inr ⟨?_,A,S,L,V,m,p1⟩⟩,E.trans p3⟩;have:=M.out;omega
   clear B G E M HS;go_wp2_with fail;refine Ut CP ?_;rintro C F;have HZ:=qH<|HF C F;clear F;go_wp2;go_ret;exact⟨t,rfl,HZ⟩
end
section
variable{Mn Mx Wt:zzb}
def fI(mn mx wt p q:Int):Int:=if mx*q<mn*q+p*wt then mx*q else mn*q+p*wt
def tO a b c p q:fI a b c p q<=b*q/\fI a b c p q<=a*q+p*c:=by grind[fI]
def ue(n:Nat)(Mn Mx Wt:zzb)(p q:Int):Int:=ap (λj=>fI (Mn j) (Mx j) (Wt j) p q) (List.range n)
def vR{a c b p q L V}(f:0<=b)(o:0<q)(n:0<V)(h:p*V<=L*q):fI a c b p q*V<=fI a c b L V*q:=by
 have d:=(tO a c b p q).1;have e:=(tO a c b p q).2;have g:fI a c b p q*V<=c*q*V:=jC d dg;have i:fI a c b p q*V<=(a*q+p*b)*V:=jC e dg;have j:=jC h f;have k:c*q*V=c*V*q:=fA _ _ _;have l:(a*q+p*b)*V=a*V*q+p*V*b:=by rw[Cu,fA a,fA p]
 have m:(a*V+L*b)*q=a*V*q+L*q*b:=by rw[Cu,fA L]
 grind[fI]
theorem gJ{f g}{l}(h:∀j∈l,f j<=g j)(e:ap f l=ap g l):∀j∈l,f j=g j:=by
 induction l with
 |nil=>grind
 |cons a l i=>have c:=h a At;have d:ap f l<=ap g l:=iJ λj b=>h j (by simp[b]);grind[bD]
def bK.levs{n}{r}{a}{A S}{L W}{m}(h:bK n Mn Mx Wt r a A S L W m)(i:∀j,Mn j<=Mx j)(g:∀j,0<=Wt j)(f:0<=W):
 ∀j,j<n->fI (Mn j) (Mx j) (Wt j) L W=if j∈A then Mx j*W else if j∈S then Mn j*W+L*Wt j else Mn j*W:=by
 obtain⟨p,hS,hd,k,l,d⟩:=h.facts;intro j q;unfold fI;by_cases b:j∈A;.rw[if_pos b];have:=h.full j b;rw[Int.sub_mul]at this;omega
 .rw[if_neg b];by_cases c:j∈S;.rw[if_pos c];have:=h.open_ j c;grind
  .rw[if_neg c];have o:Wt j=0:=by
    have:=g j;by_cases e:0<Wt j;.grind
    .omega
   have s:=jC (i j) f;grind
def Ca{f}{n}{A}(b:A.Nodup)(c:∀j∈A,j<n):ap (λj=>if j∈A then f j else 0) (List.range n)=ap f A:=by rw[ju (A:=A) sN b (λj a=>rn) (λj _ a=>if_neg a)];grind[a_]
def bK.tots{n}{r}{a}{A S}{L W}{m}(h:bK n Mn Mx Wt r a A S L W m)(p:∀j,Mn j<=Mx j)(o:∀j,0<=Wt j)(k:0<=W):ue n Mn Mx Wt L W=r*W:=by
 obtain⟨i,hS,hd,e,g,c⟩:=h.facts;have l:=h.levs p o k;have d:ue n Mn Mx Wt L W=W*ap Mn (List.range n)+(W*ap (λj=>Mx j-Mn j) A+L*ap Wt S):=by
  unfold ue;rw[<-dT W,<-dT W,<-dT L,<-Ca (f:=λj=>W*(Mx j-Mn j)) i (λj b=>(e j b).1),<-Ca (f:=λj=>L*Wt j) hS (λj b=>(g j b).1),<-fu,<-fu];refine a_ λj b=>?_;rw[l j rn];by_cases q:j∈A;.grind
  .grind
 rw[d,<-h.weight,h.left];grind
def bK.same{n}{r}{a}{A S}{L W}{m}(h:bK n Mn Mx Wt r a A S L W m)(s:∀j,Mn j<=Mx j)(b:∀j,0<=Wt j)(g:0<W){p q}(k:0<q)(o:ue n Mn Mx Wt p q=r*q):
 ∀j,j<n->fI (Mn j) (Mx j) (Wt j) p q*W=fI (Mn j) (Mx j) (Wt j) L W*q:=by
 have l:=h.tots s b dg;have d:ap (λj=>fI (Mn j) (Mx j) (Wt j) p q*W) (List.range n)=r*q*W:=by rw[<-o];unfold ue;rw[gy _ W,<-dT];exact a_ λj _=>gy _ _
 have e:ap (λj=>fI (Mn j) (Mx j) (Wt j) L W*q) (List.range n)=r*W*q:=by rw[<-l];unfold ue;rw[gy _ q,<-dT];exact a_ λj _=>gy _ _
 have f:r*q*W=r*W*q:=fA _ _ _;intro j i;by_cases c:p*W<=L*q;.exact gJ (λj _=>vR (b j) k g c) (by rw[d,e,f]) j (by simpa using i)
 .exact(gJ (λj _=>vR (b j) g k dg) (by rw[d,e,f]) j (by simpa using i)).symm
def Dx{a N q V:Int}(c:0<q)(b:0<V)(h:a*V=N*q):a/q=N/V/\a %q*V=N %V*q:=by
 refine⟨?_,?_⟩;.rw[<-Int.mul_ediv_mul_of_pos_left a q b,h,gy q V,Int.mul_ediv_mul_of_pos_left N V c]
 .rw[gy (a %q) V,<-Int.mul_emod_mul_of_pos a q b,gy V a,h,gy (N %V) q,<-Int.mul_emod_mul_of_pos N V c,gy V q,gy q N]
def PV(Mn Mx Wt:zzb)(A S:zzh)(L W:Int)(j:Nat):Int:=if j∈A then Mx j else if j∈S then Mn j+L*Wt j/W else Mn j
def Ll(Wt:zzb)(S:zzh)(L W:Int)(j:Nat):Int:=if j∈S then L*Wt j %W else 0
def bK.parts{n}{r}{a}{A S}{L W}{m}(h:bK n Mn Mx Wt r a A S L W m)(k:∀j,Mn j<=Mx j)(g:∀j,0<=Wt j)(d:0<W){p q}(i:0<q)(s:ue n Mn Mx Wt p q=r*q):
 ∀j,j<n->fI (Mn j) (Mx j) (Wt j) p q/q=PV Mn Mx Wt A S L W j/\fI (Mn j) (Mx j) (Wt j) p q %q*W=Ll Wt S L W j*q:=by
 obtain⟨v,hS,hd,t,u,e⟩:=h.facts;intro j f;have l:=h.same k g d i s j f;have o:=h.levs k g dg j f;have c:=Dx i d l;rw[c.1,c.2,o];unfold PV Ll;have b:W≠0:=dg;by_cases c1:j∈A;.rw[if_pos c1,if_pos c1,if_neg (hd j c1)];exact⟨C_ _ b,by simp_all⟩
 .rw[if_neg c1,if_neg c1];by_cases c2:j∈S
  .rw[if_pos c2,if_pos c2,if_pos c2];refine⟨?_,?_⟩;.rw[Int.add_comm,Int.add_mul_ediv_right _ _ b,Int.add_comm]
   .rw[Int.add_comm,Int.add_mul_emod_self_right]
  .rw[if_neg c2,if_neg c2,if_neg c2];exact⟨C_ _ b,by rw[Int.mul_emod_left]⟩
def bK.is_bse{n}{r}{a}{A S}{L W}{m}(h:bK n Mn Mx Wt r a A S L W m)j(c:j<n):a j=PV Mn Mx Wt A S L W j+(if j∈S.take m then 1 else 0):=by obtain⟨f,hS,hd,d,e,b⟩:=h.facts;rw[h.is j c];grind[PV]
def bK.left_m{n}{r}{a}{A S}{L W}{m}(h:bK n Mn Mx Wt r a A S L W m)(i:∀j,0<=Wt j)(b:S≠[]):m<=S.length/\r-ap (PV Mn Mx Wt A S L W) (List.range n)=m:=by
 obtain⟨t,hS,hd,s,o,f⟩:=h.facts;have c:0<W:=by obtain⟨x,l⟩:=xL S b;rw[h.weight];exact nS (o x l).2 (h_ (λk _=>i k) l)
 have p:=iB (L:=L) h.weight c;rw[<-h.miss b]at p;have g:m<=S.length:=dg;refine⟨g,?_⟩;have e:=(h.sum i).1 b;rw[a_ (λj d=>h.is_bse j rn),fu]at e;have q:ap (λj=>if j∈S.take m then(1:Int)else 0) (List.range n)=m:=by rw[ju (A:=S) sN hS (λj d=>rn) (λj _ d=>if_neg (λe=>d (nU e))),xq S hS m g]
 omega
def bK.frac_pos{n}{r}{a}{A S}{L W}{m}(h:bK n Mn Mx Wt r a A S L W m)(E:∀j,0<=Wt j)(w:0<W)t(F:t<m)(u:m<=S.length):0<L*Wt (S[t]?.getD 0) %W:=by
 have s:S≠[]:=by intro e;rw[e]at u;simp at u;omega
 have o:t<S.length:=dg;obtain⟨i,hi⟩:=af (S[t]?.getD 0);rw[hi];have x:0<=L*Wt i %W:=CJ _ dg;by_cases z:L*Wt i %W=0
 .exfalso;have e:ap (λj=>L*Wt j) S=W*ap (λj=>L*Wt j/W) S+ap (λj=>L*Wt j %W) S:=by rw[<-dT,<-fu];exact a_ λj _=>(Int.mul_ediv_add_emod _ _).symm
  rw[dT,<-h.weight]at e;have q:=h.miss s;have b:S=S.take t++(i::S.drop (t+1)):=by rw[<-hi,da o];show S=S.take t++(S[t]::S.drop (t+1));rw[<-List.drop_eq_getElem_cons o,eT]
  have f:=h.sorted;rw[b,ig]at f;have c:∀k∈S.drop (t+1),L*Wt k %W=0:=λk y=>by have:=(JZ.1 f.2.1).1 k y;have C:0<=L*Wt k %W:=CJ _ dg;omega
  have v:ap (λj=>L*Wt j %W) S=ap (λj=>L*Wt j %W) (S.take t):=by
   conv=>lhs;rw[b]
   rw[jt,bD,z];have:ap (λj=>L*Wt j %W) (S.drop (t+1))=0:=by
    rw[a_ (g:=λ_=>0) c];have:∀l:List Nat,ap (λ_=>(0:Int)) l=0:=by
     intro l;induction l with
     |nil=>rfl
     |cons a l G=>grind[bD]
    exact this _
   omega
  have p:ap (λj=>L*Wt j %W) (S.take t)<=((S.take t).length:Int)*W:=iI λj _=>Int.le_of_lt (JN _ w);have d:(S.take t).length=t:=by rw[cL];omega
  rw[d]at p;have B:W*(m:Int)=ap (λj=>L*Wt j %W) S:=by rw[q,Int.mul_sub,gy W L];omega
  have D:W*(t+1:Int)<=W*(m:Int):=Ob dg dg;grind
 .omega
def bK.all_full{n}{r}{a}{A}{L W}{m}(h:bK n Mn Mx Wt r a A [] L W m)(x:∀j,Mn j<=Mx j)(i:∀j,0<=Wt j){p q}(k:0<q)(l:ue n Mn Mx Wt p q=r*q):
 (∀j,j<n->fI (Mn j) (Mx j) (Wt j) p q=a j*q)/\r=ap a (List.range n):=by
 obtain⟨y,z,hd,o,s,f⟩:=h.facts;have w:=(h.sum i).2 rfl;have d:∀j∈List.range n,fI (Mn j) (Mx j) (Wt j) p q<=a j*q:=λj c=>by
  have c:j<n:=by simpa using c
  rw[h.is j c];have t:=(tO (Mn j) (Mx j) (Wt j) p q);grind
 have g:ap (λj=>a j*q) (List.range n)=ap a (List.range n)*q:=by rw[gy,<-dT];exact a_ λj _=>gy _ _
 have b:=iJ d;have e:ap (λj=>fI (Mn j) (Mx j) (Wt j) p q) (List.range n)=r*q:=l;rw[e,g]at b;have u:=Oc b k;have v:r=ap a (List.range n):=by have:=h.pos;omega
 grind[gJ]
structure ur(n:Nat)(f:zzb)(b:Nat):Prop where
 lt:b<n
 top:∀j,j<n->f j<=f b
 first:∀j,j<b->f j<f b
def ur.uniq{n}{f}{b c}(h:ur n f b)(k:ur n f c):b=c:=by
 rcases Nat.lt_trichotomy b c with e|e|e;.have:=k.first b e;have:=h.top c k.lt;omega
 .exact e
 .have:=h.first c e;have:=k.top b h.lt;omega
def bK.best{n}{r}{a}{A S}{L W}{m}(h:bK n Mn Mx Wt r a A S L W m)(P:∀j,0<=Wt j)(N:0<W)t(Q:t<m)(E:m<=S.length)(rest:zzb){q}(J:0<q)(K:∀j,j<n->rest j*W=Ll Wt S L W j*q):
 ur n (λj=>if j∈S.take t then-1 else rest j) (S[t]?.getD 0):=by
 obtain⟨U,R,hd,T,z,H⟩:=h.facts;have p:=h.frac_pos P N t Q E;have o:t<S.length:=dg;obtain⟨i,hi⟩:=af (S[t]?.getD 0);rw[hi]at p|-;have f:i∈S:=by rw[<-hi,da o];exact kK o
 have b:S=S.take t++(i::S.drop (t+1)):=by rw[<-hi,da o];show S=S.take t++(S[t]::S.drop (t+1));rw[<-List.drop_eq_getElem_cons o,eT]
 have v:i∉S.take t:=by have:=R;rw[b,JG]at this;exact λE=>this.2.2 i E i At rfl
 have w:=h.sorted;rw[b,ig]at w;have k:=(JZ.1 w.2.1).1;have l:=K i (z i f).1;have B:Ll Wt S L W i=L*Wt i %W:=by unfold Ll;rw[if_pos f]
 rw[B]at l;have F:0<rest i:=by
  have s:=Int.mul_pos p J;rw[<-l]at s;by_cases e:0<rest i;.exact e
  .have:rest i*W<=0:=Int.mul_nonpos_of_nonpos_of_nonneg dg dg;omega
 have x:∀j,j<n->j∉S.take t->j≠i->(rest j<rest i\/(rest j=rest i/\i<j)):=by
  intro j y I O;have d:=K j y;by_cases g:j∈S
  .have C:j∈S.drop (t+1):=by
    rw[b]at g;rcases jA.1 g with s|s;.grind
    .grind
   have u:Ll Wt S L W j=L*Wt j %W:=by unfold Ll;rw[if_pos g]
   rw[u]at d;rcases k j C with s|⟨s,M⟩;.left;have G:=JM s J;rw[<-l,<-d]at G;exact Int.lt_of_mul_lt_mul_right G dg
   .right;refine⟨?_,M⟩;rw[<-s,<-l]at d;exact Int.eq_of_mul_eq_mul_right dg d
  .left;have u:Ll Wt S L W j=0:=by unfold Ll;rw[if_neg g]
   rw[u,Int.zero_mul]at d;have:rest j=0:=by
    rcases Int.mul_eq_zero.1 d with h|h;.exact h
    .omega
   omega
 refine⟨(z i f).1,λj y=>?_,λj y=>?_⟩
 .rw[if_neg v];by_cases c:j∈S.take t;.rw[if_pos c];omega
  .rw[if_neg c];by_cases e:j=i;.rw[e];exact ie _
   .rcases x j y c e with h|⟨h,_⟩<;>omega
 .rw[if_neg v];have D:j<n:=by have:=(z i f).1;omega
  by_cases c:j∈S.take t;.rw[if_pos c];omega
  .rw[if_neg c];rcases x j D c dg with h|⟨_,h⟩<;>omega
def xo f n k(a:k<=n):ap f (List.range n)=ap f (List.range k)+ap f ((List.range n).drop k):=by
 rw[<-jt];congr 1;have:List.range k=(List.range n).take k:=by rw[List.take_range,JV a]
 rw[this,eT]
def vX{n k j}(h:j∈(List.range n).drop k):k<=j/\j<n:=by obtain⟨i,hi,e⟩:=mh.1 h;grind
def uq.le_of{n}{i}{r}{g b}(h:uq n i r g)(f:uq n i r b)k(m:k<n)(e:∀j,j<k->g j=b j):b k<=g k:=by
 by_cases c:b k<=g k;.exact c
 .exfalso;have q:=f.bd k m;have o:=xo g n (k+1) dg;have p:=xo b n (k+1) dg;have t1:ap g ((List.range n).drop (k+1))<=0:=by
   have:ap g ((List.range n).drop (k+1))<=ap (λ_=>0) ((List.range n).drop (k+1)):=iJ λj d=>by have:=vX d;rw[h.behind k j dg dg dg];omega
   refine io this ?_;have z:∀l:List Nat,ap (λ_=>(0:Int)) l=0:=by
    intro l;induction l with
    |nil=>rfl
    |cons a l s=>grind[bD]
   rw[z];exact ie _
  have t2:0<=ap b ((List.range n).drop (k+1)):=cH λj d=>(f.bd j (vX d).2).1;have t3:ap g (List.range k)=ap b (List.range k):=a_ λj d=>e j rn;rw[sO,fL]at o p;have:=h.sum;have:=f.sum;omega
def uq.uniq{n}{d}{r}{g b}(h:uq n d r g)(c:uq n d r b):∀j,j<n->g j=b j:=by
 have:∀k,k<=n->∀j,j<k->g j=b j:=by
  intro k;induction k with
  |zero=>omega
  |succ k f=>
   intro p j o;have a:=f dg;by_cases e:j<k;.grind
   .obtain rfl:j=k:=dg;have l:=h.le_of c j dg a;have m:=c.le_of h j dg (λi hi=>(a i hi).symm);omega
 grind
end
section
open Go.RowKit Go.Sort
def Fb(Mn Mx Wt:zzb):Prop:=∀j,0<=Mn j/\Mn j<=Mx j/\Mx j<=100000/\0<=Wt j/\Wt j<=100000
structure AK(n:Nat)(Mn Mx Wt:zzb)(r p q:Int)(g:zzb)(S:zzh)(m:Nat)(base rest:zzb):Prop where
 base_:∀j,j<n->fI (Mn j) (Mx j) (Wt j) p q/q=base j
 rest_:∀j,j<n->fI (Mn j) (Mx j) (Wt j) p q %q=rest j
 left:r-ap base (List.range n)=m
 le:m<=S.length
 VQ:S.Nodup
 lt:∀j∈S,j<n
 best:∀t,t<m->ur n (λj=>if j∈S.take t then-1 else rest j) (S[t]?.getD 0)
 is:∀j,j<n->g j=base j+(if j∈S.take m then 1 else 0)
def lU{n}{Mn Mx Wt}{r p q}{g}(s:Fb Mn Mx Wt)(l:cO n Mn Mx Wt r g)(B:ap Mn (List.range n)<=r)(i:0<q)(f:ue n Mn Mx Wt p q=r*q):∃S m c rest,AK n Mn Mx Wt r p q g S m c rest:=by
 have w:=λj=>(s j).2.1;have d:=λj=>(s j).2.2.2.1;rcases l with⟨E,_⟩|⟨_,A,S,L,V,m,h⟩;.omega
 .obtain⟨F,C,hd,D,o,v⟩:=h.facts;by_cases hS:S=[];.subst hS;have z:=h.all_full w d i f;refine⟨[],0,g,λj=>fI (Mn j) (Mx j) (Wt j) p q %q,λj a=>?_,λ_ _=>rfl,dg,At,At,At,λt f=>dg,λj a=>At⟩;rw[z.1 j a];exact C_ _ dg
  .have u:0<V:=by obtain⟨x,y⟩:=xL S hS;rw[h.weight];exact nS (o x y).2 (h_ (λk _=>d k) y)
   have e:=h.parts w d u i f;have b:=h.left_m d hS;exact⟨S,m,PV Mn Mx Wt A S L V,λj=>fI (Mn j) (Mx j) (Wt j) p q %q,λj a=>(e j a).1,λ_ _=>rfl,b.2,b.1,C,λj a=>(o j a).1,λt f=>h.best d u t f b.1 _ i (λj a=>(e j a).2),λj a=>h.is_bse j a⟩
def ur.congr{n}{f g}{b}(h:ur n f b)(e:∀j,j<n->f j=g j):ur n g b:=by
 refine⟨h.lt,λj a=>?_,λj a=>?_⟩;.rw[<-e j a,<-e b h.lt];exact h.top j a
 .have:=h.lt;rw[<-e j dg,<-e b h.lt];exact h.first j a
def AK.uniq{n}{Mn Mx Wt}{r p q}{g l}{S i}{m v}{d a rest c}(h:AK n Mn Mx Wt r p q g S m d rest)(f:AK n Mn Mx Wt r p q l i v a c):∀j,j<n->g j=l j:=by
 have o:=λj b=>(h.base_ j b).symm.trans (f.base_ j b);have G:=λj b=>(h.rest_ j b).symm.trans (f.rest_ j b);have H:ap d (List.range n)=ap a (List.range n):=a_ λj b=>o j rn;have B:m=v:=by have E:=h.left;have F:=f.left;omega
 subst B;have C:∀t,t<=m->S.take t=i.take t:=by
  intro t;induction t with
  |zero=>grind
  |succ t D=>
   intro A;have e:=D dg;have w:=h.best t dg;have x:=f.best t dg;have y:=w.congr (g:=λj=>if j∈i.take t then-1 else c j) λj b=>rn;have k:=y.uniq x;have s:t<S.length:=by have:=h.le;omega
   have u:t<i.length:=by have:=f.le;omega
   rw[da s,da u]at k;have z:S[t]=i[t]:=k;rw[gx s,gx u,e,z]
 intro j b;rw[h.is j b,f.is j b,o j b,C m LE]
def cO.uniq{n}{Mn Mx Wt}{r}{g z}(c:Fb Mn Mx Wt)(h:cO n Mn Mx Wt r g)(s:cO n Mn Mx Wt r z):∀j,j<n->g j=z j:=by
 have D:=λj=>(c j).2.1;have l:=λj=>(c j).2.2.2.1;have k:=h;have k':=s;rcases h with⟨a,b⟩|⟨a,A,S,L,V,m,p⟩
 .rcases s with⟨a',F⟩|⟨a',_⟩;.exact b.uniq F
  .omega
 .rcases s with⟨a',_⟩|⟨a',I,w,J,E,M,o⟩;.omega
  .obtain⟨_,_,_,K,H,B⟩:=p.facts;obtain⟨_,_,_,G,q,t⟩:=o.facts;by_cases e:S=[]
   .by_cases y:w=[];.subst e;subst y;intro j C;rw[p.is j C,o.is j C];grind
    .have d:0<E:=by obtain⟨x,i⟩:=xL w y;rw[o.weight];exact nS (q x i).2 (h_ (λk _=>l k) i)
     have f:=o.tots D l dg;obtain⟨_,_,_,_,u⟩:=lU c k a d f;obtain⟨_,_,_,_,v⟩:=lU c k' a' d f;exact u.uniq v
   .have d:0<V:=by obtain⟨x,i⟩:=xL S e;rw[p.weight];exact nS (H x i).2 (h_ (λk _=>l k) i)
    have f:=p.tots D l dg;obtain⟨_,_,_,_,u⟩:=lU c k a d f;obtain⟨_,_,_,_,v⟩:=lU c k' a' d f;exact u.uniq v
end
section
open Go.RowKit Go.Sort Go.Proofs.Tryz
def Qr(W:AT)(v:Fd)(n:Nat)(a b c:zzb):Prop:=∃p cap,v=.slice p n cap/\(n=0\/∃g off,p=some (aq g off)/\fB W g off n a b c)
def Qr.below{A B}{v}{n}{a b c}(h:Qr A v n a b c)(d:Bq A B):Qr B v n a b c:=by
 obtain⟨p,cap,i,h⟩:=h;refine⟨p,cap,i,?_⟩;rcases h with h|⟨g,off,e,f⟩;.omega
 .exact .inr ⟨g,off,e,f.below d⟩
def ta(w w':AT)(v:Fd)(n:Nat)(a b c:zzb)(jm NL:Int):Prop:=
 ((n=0\/200<n)/\v=.slice none 0 0/\w'=w)\/(0<n/\n<=200/\∃lb,v=Sq lb n n/\oC w w' lb n (λj=>cl (a j)) (λj=>fC (a j) (b j)) (λj=>cl (c j)) (rm jm NL n))
def mV v n a b c d f w(h:Qr w v n a b c)(r:n<=5864062014805):
 Cw 258 #[Iq d,Iq f,v] w λe w'=>∃v,e=Rw v/\ta w w' v n a b c d f:=by
 obtain⟨p,i,rfl,h⟩:=h;by_cases j:n=0\/200<n;.exact(As p n i d f w j dg).mono λe w' ⟨k,o⟩=>⟨_,k,.inl ⟨j,rfl,o⟩⟩
 .obtain⟨g,off,rfl,l⟩:=h.resolve_left (λe=>j (.inl e));exact(EK n g off i a b c d f w l dg dg).mono λe w' ⟨q,k,m⟩=>⟨_,k,.inr ⟨dg,dg,q,rfl,m⟩⟩
def ta.below{w w'}{v}{n}{a b c}{d e}(h:ta w w' v n a b c d e):Bq w w':=by
 rcases h with⟨_,_,rfl⟩|⟨_,_,lb,_,h⟩;.exact Ok
 .exact h.2.2
end
section
open Go.RowKit Go.Sort
def cO.tiles{n}{a b c g}{r}(h:cO n a b c r g)(d:∀j,0<=a j/\a j<=b j/\b j<=100000/\0<=c j/\c j<=100000):
 (∀j,j<n->0<=g j/\g j<=b j)/\(r<=ap a (List.range n)\/r<=ap (λj=>if 0<c j then b j else a j) (List.range n)->ap g (List.range n)=r)/\
  (ap a (List.range n)<r->ap (λj=>if 0<c j then b j else a j) (List.range n)<r->ap g (List.range n)=ap (λj=>if 0<c j then b j else a j) (List.range n)):=by
 have l:ap a (List.range n)<=ap (λj=>if 0<c j then b j else a j) (List.range n):=iJ λj _=>rn;rcases h with⟨k,f⟩|⟨k,A,S,L,V,m,i⟩;.refine⟨λj e=>?_,λ_=>f.sum,λh=>dg⟩;have:=f.bd j e;grind
 .have o:=i.tiles (λj=>(d j).2.1) (λj=>(d j).2.2.2.1);refine⟨λj e=>?_,λh=>dg,λ_ h=>dg⟩;have:=i.bds (λj=>(d j).2.1) (λj=>(d j).2.2.2.1) j e;grind
def fT(a b c:zzb)j:0<=cl (a j)/\cl (a j)<=fC (a j) (b j)/\fC (a j) (b j)<=100000/\0<=cl (c j)/\cl (c j)<=100000:=
 ⟨(eO _).1,(jK _ _).1,(jK _ _).2,(eO _).1,(eO _).2⟩
end
section
open Go.RowKit Go.Sort Go.Proofs.Tryz
def offs(g:zzb)(cg:Int)(k:Nat):Int:=ap (λj=>g j+cg) (List.range k)
def mN g a k:offs g a (k+1)=offs g a k+(g k+a):=by unfold offs;rw[sO,fL]
def oI{g}{a}{n}(e:∀j,j<n->0<=g j/\g j<=100000)(d:0<=a/\a<=100000)k(h:k<=n):0<=offs g a k/\offs g a k<=(k:Int)*200000:=by refine⟨cH λj c=>rn,?_⟩;have:=iI (f:=λj=>g j+a) (l:=List.range k) (b:=200000) λj c=>rn;rw[JP]at this;exact this
def Fh(w w':AT)(v:Fd)(n:Nat)(a b c:zzb)(jm NL:Int):Prop:=
 ((n=0\/200<n)/\v=.slice none 0 0/\w'=w)\/(0<n/\n<=200/\∃lb g,v=Sq lb n n/\dy w' lb 0 n (offs g (cl NL))/\cO n (λj=>cl (a j)) (λj=>fC (a j) (b j)) (λj=>cl (c j)) (rm jm NL n) g/\Bq w w')
def Fh.below{w w'}{v}{n}{a b c}{d e}(h:Fh w w' v n a b c d e):Bq w w':=by
 rcases h with⟨_,_,rfl⟩|⟨_,_,lb,g,_,_,_,h⟩;.exact Ok
 omega
def Mu g a k j:Nf (λj=>if j<k then offs g a j else g j) k (offs g a k) j=if j<k+1 then offs g a j else g j:=by grind[Nf]
def Oj(w:AT)(v:Fd):Prop:=∀lb o n c,v=.slice (some (aq lb o)) n c->w.heap.size<=lb
def wH(v:Fd)(n:Nat)(a b c:zzb)(f d:Int)(w:AT)(h:Qr w v n a b c)(hn:n<=5864062014805):
 Cw 259 #[Iq f,Iq d,v] w λe w'=>∃v,e=Rw v/\Fh w w' v n a b c f d/\Oj w v:=by
 have S:Hid (Cw 258 #[Iq f,Iq d,v] w λe w'=>∃v,e=Rw v/\ta w w' v n a b c f d):=mV v n a b c f d w h hn;have T:Hid (∀w,Cw 305 #[Iq d] w λe w'=>e=Rw (Iq (cl d))/\w'=w):=λw=>shClamped_any d w;have q:=eO d;obtain⟨l,m⟩:=af (cl d);have J:Hid (cl d=l):=m;rw[m]at T q;have N:=q.1;have O:=q.2;clear h m q;go_enter func259,ntmps259;go_wp2_with fail;refine S.out.mono ?_;rintro e I ⟨v2,rfl,hs⟩;clear S;rcases hs with⟨V,rfl,rfl⟩|⟨W,X,z,rfl,Q,⟨g,y,D⟩,t⟩
 .have HO:Hid (Fh I I (.slice none 0 0) n a b c f d):=.inl ⟨V,rfl,rfl⟩;clear V;go_wp2;go_loop[8,17] (λs i=>s=Iq 0/\i=Iq 0) (λ_ _=>0);.grind
  obtain⟨rfl,rfl⟩:=hrel;go_wp2;go_ret;exact⟨_,rfl,HO.out,λz o n c e=>by cases e⟩
 .have B:∀j,j<n->0<=g j/\g j<=100000:=λj Y=>by have W:=(D.tiles (fT a b c)).1 j Y;have X:=fT a b c j;omega
  have K:Hid (∀j,j<n->0<=g j/\g j<=100000):=B;have E:Hid (∀k,k<=n->0<=offs g l k/\offs g l k<=(k:Int)*200000):=λk P=>oI B ⟨N,O⟩ k P;have M:Hid (cO n (λj=>cl (a j)) (λj=>fC (a j) (b j)) (λj=>cl (c j)) (rm f d n) g):=D;have R0:Hid (dy I z 0 n (λj=>if j<0 then offs g l j else g j)/\Bq w I):=⟨y.congr λj _=>At,t⟩;clear B D y t;go_wp2;go_loopw[8,17] (λs i wr=>∃k:Nat,s=Iq (offs g l k)/\i=Iq k/\k<=n/\Hid (dy wr z 0 n (λj=>if j<k then offs g l j else g j)/\Bq w wr)) (λ_ i _=>n-(intOf i).toNat);.exact⟨0,rfl,rfl,LT,R0.out⟩
  obtain⟨k,rfl,rfl,P,A⟩:=hrel;by_cases C:k<n
  .have Z:(k:Int)<(n:Int):=dg;have H:=A.out.1.2 k C;dsimp only at H;rw[if_neg dg,b_]at H;have F:=K.out k C;have G:=E.out k P;have R:=E.out (k+1) dg;have r:=mN g l k;have p:=A.out.1.set k (offs g l k) C;rw[b_]at p;have U:Hid (dy (wr.setCell (aq z k) (Iq (offs g l k))) z 0 n (λj=>if j<k+1 then offs g l j else g j)/\Bq w (wr.setCell (aq z k) (Iq (offs g l k)))):=⟨p.congr λj _=>Mu g l k j,A.out.2.setCell Q _⟩;obtain⟨gk,u⟩:=af (g k);rw[u]at H F r;obtain⟨o1,x⟩:=af (offs g l k);rw[x]at G r U|-;have L:Hid (offs g l (k+1)=o1+(gk+l)):=r;obtain⟨ze,zg⟩:=H;obtain⟨zh,zi⟩:=F;obtain⟨zl,zm⟩:=G;clear p u x R r A;go_wp2_with(go_at_call 305;refine Ut (T.out _) ?_;rintro w5 rfl);go_roundw;.exact⟨k+1,by rw[L.out],by go_num,dg,U.out⟩
   grind[intOf]
  .have zj:¬(k:Int)<(n:Int):=dg;obtain rfl:n=k:=dg;have HF:Hid (Fh w wr (Sq z n n) n a b c f d):=.inr ⟨W,X,z,g,rfl,by rw[J.out];exact A.out.1.congr λj Y=>dg,M.out,A.out.2⟩;clear A;go_wp2;go_ret;exact⟨_,rfl,HF.out,λzk o n' c' e=>by simp_all⟩
