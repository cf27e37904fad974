import Derived.Test.YtbeiapdobffpiaaGreatDoorQ38
import Derived.Test.YtbeiapdobffpiaaGreatDoorQ25
set_option linter.all false
set_option maxRecDepth 100000
set_option maxHeartbeats 16000000
namespace Go.Proofs.YtbeiapdobffpiaaGreatDoor
open Go.RowKit Go.Sort Go.Proofs.Tryz
theorem Ej(F:Nat->Nat)  ks  :∀m,m<=ks.length->cS (fun j=>F (aP ks j)) m=((ks.take m).map F).sum
 |0,_=>by simp[cS]
 |m+1,h=>by
  have h1:=Ej F ks m (by omega);have hl:m<ks.length:=by omega
  rw[l_ hl,li,Mo,<-h1];grind[cS,aP]
theorem PW  kids   f i  :(rh kids (f+1) i).length=cS (fun j=>(rh kids f (aP (kids i) j)).length) (kids i).length+1:=by rw[Ej (fun c=>(rh kids f c).length) (kids i) _ (ai _),qj];simp_all[rh]
theorem dk.nest{s}{L}(h:dk s L):vS L.length (fun i=>(ae L i).kids) (fun i=>(ae L i).up):=by
 refine⟨fun i c hi hc=>?_,fun i hi=>Dz (fun k c d h1 h2=>h.gr.rise i k c d hi h1 h2),fun i hi=>h.gr.upl i hi,fun i hi=>?_⟩;·obtain⟨k,hk⟩:=List.mem_iff_getElem?.1 hc;exact h.gr.kid i k c hi hk
 ·by_cases e:i=0;·subst e;show-1<=(ae L 0).up;rw[h.up0];decide
  ·have:=h.gr.up0 i hi;omega
theorem Ch.cover{L}{d}{ks}{a e}(h:Ch L d ks a e):∀j,a<=j->j<e->j∈ks\/∃i,a<=i/\i<j/\j∈(L i).kids:=by
 induction h with
 |nil d a=>omega
 |@cons d c r e1 e h1 h2 h3 h4 i1 i2=>
  intro j k1 k2;by_cases e0:j=c;·grind
  ·by_cases l:j<e1;·grind
   ·have:=h3.le;grind
theorem dk.kid_of{s}{L}(h:dk s L)  j  (h0:0<j) (hj:j<L.length):∃i k,i<j/\k<(ae L i).kids.length/\aP (ae L i).kids k=j/\(ae L j).up=(i:Int):=by
 rcases h.ch.cover j (bc _) hj with q|⟨i,_,q2,q3⟩;·grind
 ·obtain⟨k,hk,e⟩:=ox.1 q3;refine⟨i,k,q2,hk,?_,(h.nest.kid i j (by omega) q3).2.2⟩;grind[aP]
theorem Nv.bd{d}(h:Nv d):(∀k,k<12->-1<=aC d k/\aC d k<=1000000)/\(0<=aC d 4/\aC d 4<=100)/\(0<=aC d 5/\aC d 5<=20)/\(0<=aC d 6/\aC d 6<=1)/\0<=aC d 0/\0<=aC d 1/\0<=aC d 3:=by
 have key:∀k,k<12->aC d k=aV[k]?.getD 0\/(0<=aC d k/\aC d k<=iE[k]?.getD 0):=fun k hk=>(h.att k hk).imp id fun q=>q.2;have k0:=key 0 (by decide);have k1:=key 1 (by decide);have k2:=key 2 (by decide);have k3:=key 3 (by decide);have k4:=key 4 (by decide);have k5:=key 5 (by decide);have k6:=key 6 (by decide);have k7:=key 7 (by decide);have k8:=key 8 (by decide);have k9:=key 9 (by decide);have k10:=key 10 (by decide);have k11:=key 11 (by decide);simp only[aV,iE,Mu,List.getElem?_cons_succ,Mq]at k0 k1 k2 k3 k4 k5 k6 k7 k8 k9 k10 k11;refine⟨fun k hk=>?_,by omega,by omega,by omega,by omega,by omega,by omega⟩;match k,hk with
 |0,_=>omega
 |1,_=>omega
 |2,_=>omega
 |3,_=>omega
 |4,_=>omega
 |5,_=>omega
 |6,_=>omega
 |7,_=>omega
 |8,_=>omega
 |9,_=>omega
 |10,_=>omega
 |11,_=>omega
theorem nU{d}(h:d.attr.length=12)  kv  :bE d kv=[Iq d.kind,Iq (aC d 0),Iq (aC d 1),Iq (aC d 2),Iq (aC d 3),Iq (aC d 4),Iq (aC d 5),Iq (aC d 6),Iq (aC d 7),Iq (aC d 8),Iq (aC d 9),Iq (aC d 10),Iq (aC d 11),.string ⟨d.text.toArray⟩,kv,Iq d.up]:=by
 unfold bE aC;match d.attr,h with
 |[a0,a1,a2,a3,a4,a5,a6,a7,a8,a9,b0,b1],_=>rfl
structure rx(U:World)(mb r g al wb:Nat)(L:List Nd)(KV:Nat->Value)(Wd:Nat->Int):Prop where
 ms:Ms U mb (Sq g L.length al) (Sq wb L.length L.length) r
 gl:g<U.heap.size
 wl:wb<U.heap.size
 mr:mb≠r
 gr:g≠r
 wr:wb≠r
 len:∀j,j<L.length->(ae L j).attr.length=12
 nd:∀j,j<L.length->∀(t:Nat) x,(bE (ae L j) (KV j))[t]?=some x->U.cell? (az g (j*16+t))=some x
 kid:∀j,j<L.length->∃p c,KV j=.slice p (ae L j).kids.length c/\gm U r p (ae L j).kids.length (fun t=>(aP (ae L j).kids t:Int))
 wd:∀j,j<L.length->U.cell? (az wb j)=some (Iq (Wd j))
theorem rx.ml{U}{mb r g al wb}{L}{KV}{Wd}(h:rx U mb r g al wb L KV Wd):mb<U.heap.size:=(aS.1 h.ms).1
theorem rx.grown{U U'}{mb r g al wb}{L}{KV}{Wd}(h:rx U mb r g al wb L KV Wd)(hg:U.grownBy U' (some r)):rx U' mb r g al wb L KV Wd:=by have ml:=h.ml;have key:∀b,b<U.heap.size->b≠r->U'.heap[b]?=U.heap[b]?:=fun b h1 h2=>hg.block b h1 (fun q=>h2 (by simpa using q));refine⟨(key mb ml h.mr).trans h.ms,bn h.gl hg.size,bn h.wl hg.size,h.mr,h.gr,h.wr,h.len,fun j hj t x ht=>(bU (key g h.gl h.gr)).trans (h.nd j hj t x ht),fun j hj=>?_,fun j hj=>(bU (key wb h.wl h.wr)).trans (h.wd j hj)⟩;obtain⟨p,c,e,hk⟩:=h.kid j hj;exact⟨p,c,e,hk.grown hg⟩
theorem de{s}{L}(hT:dk s L){i j}(hi:i<L.length)(hj:j<(ae L i).kids.length):i<aP (ae L i).kids j/\aP (ae L i).kids j<L.length:=by have:=hT.nest.kid i _ hi (fe hj);omega
theorem dk.kids_le{s}{L}(hT:dk s L){i}(hi:i<L.length):(ae L i).kids.length<=100:=by have h1:=lF L.length (ae L i).kids (hT.nest.nd i hi) (fun x hx=>(hT.nest.kid i x hi hx).2.1);have:=hT.vl.cnt;omega
section
variable{U W W':World} {r:Nat}
theorem pP(h:U.grownBy W (some r))  o  :U.grownBy (W.alloc o) (some r):=h.trans (ac ((ag _ W).alloc (ai _) _))
theorem gx(h:U.grownBy W (some r)):U.grownBy W.drew (some r):=h.trans (ac ((ag _ W).drew))
theorem eG(h:U.grownBy W (some r)){a}(ha:U.heap.size<=a.block)  v  :U.grownBy (W.setCell a v) (some r):=
 ⟨h.os,h.tape,h.output,aT h.size (by simp),fun b hb hn=>(cF W a v b (by omega)).trans (h.block b hb hn)⟩
theorem bu.alloc{H}{n}(h:bu W r H n)  o  :bu (W.alloc o) r H n:=h.kept (row:=none) (World.grownBy_alloc W o none) (by simp)
theorem bu.drew{H}{n}(h:bu W r H n):bu W.drew r H n:=h.kept (row:=none) (ac ((ag _ W).drew)) (by simp)
theorem bu.drewN{H}{n}(h:bu W r H n)  q  :bu (W.drewN q) r H n:=h.kept (W':=W.drewN q) (row:=none) ⟨rfl,rfl,rfl,ai _,fun _ _ _=>rfl⟩ (by simp)
theorem bu.set{H}{n}(h:bu W r H n){a}(ha:a.block≠r)  v  :bu (W.setCell a v) r H n:=
 h.kept (row:=some a.block) ⟨rfl,rfl,rfl,by simp,fun b hb hn=>cF W a v b (fun e=>hn (by rw[e]))⟩ (fun e=>ha (by grind))
theorem bu.grown_below{H}{n}(h:bu W r H n)(hb:Bt W W'):bu W' r H n:=h.kept (row:=none) (ac hb) (by simp)
theorem gm.congr{m}{p}{v v'}(h:gm W r p m v)(e:∀j,j<m->v j=v' j):gm W r p m v':=by
 rcases h with h|⟨b,o,h1,h2,h3,h4⟩;·exact .inl h
 ·exact .inr ⟨b,o,h1,h2,h3,fun j hj=>by grind⟩
theorem qe{b}{t}{n}{f}(h:W.rowIs b t n f)(hg:W.grownBy W' (some r))(bG:b≠r):W'.rowIs b t n f:=h.of_block (hg.block b h.lt (fun e=>bG (by grind)))
theorem rowIs_below{b}{t}{n}{f}(h:W.rowIs b t n f)(hb:Bt W W'):W'.rowIs b t n f:=h.of_block (hb.block b h.lt)
end
def E9(a b c:Nat->Int)(k:Nat)(i:Nat):Value:=Iq (if i/3<k then(if i %3=0 then a (i/3)else if i %3=1 then b (i/3)else c (i/3))else 0)
theorem P5(w:World)  m   a b c   T  :(w.alloc (.cells (madeCells #[Iq 0,Iq 0,Iq 0] (m*3)) T)).rowIs w.heap.size T (m*3) (E9 a b c 0):=by have:=World.rowIs_alloc w (madeCells #[Iq 0,Iq 0,Iq 0] (m*3)) T (E9 a b c 0) (fun i hi=>by rw[size_madeCells]at hi;unfold E9;rw[if_neg (by omega)];simp only[madeCells];grind);rw[size_madeCells]at this;omega
theorem P4{W:World}{b}{T}{m k}{a b1 c}(h:W.rowIs b T (m*3) (E9 a b1 c k))  x y z  (hx:x=a k) (hy:y=b1 k) (hz:z=c k):
 (((W.setCell (az b (k*3)) (Iq x)).setCell (az b (k*3+1)) (Iq y)).setCell (az b (k*3+2)) (Iq z)).rowIs b T (m*3) (E9 a b1 c (k+1)):=by subst hx hy hz;refine(((h.set (k*3) (Iq (a k))).set (k*3+1) (Iq (b1 k))).set (k*3+2) (Iq (c k))).congr fun i hi=>?_;grind[E9]
theorem Ub{W}{b}{T}{m}{a b1 c}(h:W.rowIs b T (m*3) (E9 a b1 c m)):eD W b 0 m a b1 c:=by
 refine⟨h.lt,fun j hj=>⟨?_,?_,?_⟩⟩;·rw[bC,h.cell (by omega)];grind[E9]
 ·rw[bC,h.cell (by omega)];grind[E9]
 ·rw[bC,h.cell (by omega)];grind[E9]
def QB(U W:World)(r lb m:Nat)(a b c:Nat->Int)(H:Nat->Int->Int)(n:Nat):Prop:=eD W lb 0 m a b c/\U.heap.size<=lb/\U.grownBy W (some r)/\bu W r H n
def tV(d:Nd)(id:Int):Bool:=decide ((d.kind:Int)=4)&&decide (aC d 0=id)
def xp(L:List Nd)(id:Int)(j:Nat):Nat->Int
 |0=>-1
 |f+1=>if tV (ae L j) id=true then(j:Int)else xp L id (j+1) f
def l0(L:List Nd)(id:Int):Int:=if id=0 then-1 else xp L id 0 L.length
theorem LB(L:List Nd)(id:Int):∀f j,xp L id j f=-1\/∃i:Nat,j<=i/\i<j+f/\xp L id j f=(i:Int)/\tV (ae L i) id=true
 |0,j=>.inl rfl
 |f+1,j=>by
  unfold xp;by_cases h:tV (ae L j) id=true;·rw[if_pos h];exact .inr ⟨j,by omega,by omega,rfl,h⟩
  ·rw[if_neg h];rcases LB L id f (j+1)with q|⟨i,q1,q2,q3,q4⟩;·exact .inl q
   ·exact .inr ⟨i,by omega,by omega,q3,q4⟩
theorem scI_is(L:List Nd)(id:Int):l0 L id=-1\/∃i:Nat,i<L.length/\l0 L id=(i:Int)/\(ae L i).kind=4/\aC (ae L i) 0=id/\id≠0:=by
 unfold l0;by_cases h:id=0;·exact .inl (if_pos h)
 ·rw[if_neg h];rcases LB L id L.length 0 with q|⟨i,q1,q2,q3,q4⟩;·exact .inl q
  ·simp[tV]at q4;exact .inr ⟨i,by omega,q3,by omega,q4.2,h⟩
structure FC(U:World)(g:Nat)(L:List Nd):Prop where
 lt:g<U.heap.size
 len:∀j,j<L.length->(ae L j).attr.length=12
 nd:∀j,j<L.length->∃p c,U.rangeAt g (j*16) (bE (ae L j) (.slice p (ae L j).kids.length c))
theorem FC.block{U U':World}{g:Nat}{L:List Nd}(h:FC U g L)(hb:U'.heap[g]?=U.heap[g]?):FC U' g L:=by
 refine⟨?_,h.len,fun j hj=>?_⟩;·rw[Mv h.lt]at hb;exact(aS.1 hb).1
 ·obtain⟨p,c,q⟩:=h.nd j hj;exact⟨p,c,fun t v hv=>(bU (a:=(az g _)) hb).trans (q t v hv)⟩
theorem PN.ndc{W:World}{B g al:Nat}{L:List Nd}{KV:Nat->Value}(h:PN W B (Sq g L.length al) L KV)(h0:0<L.length):FC W g L/\B<=g:=by
 obtain⟨xs,hx⟩:=h.nr.row;obtain⟨iU,hB⟩:g<W.heap.size/\B<=g:=by
  rcases cD hx with⟨e,_⟩|⟨g',mg,e,hb,hl,_⟩;·cases e
  ·grind
 refine⟨⟨iU,h.len,fun j hj=>?_⟩,hB⟩;obtain⟨p,c,e⟩:∃p c,KV j=.slice p (ae L j).kids.length c:=by
  rcases cD (h.nr.kids j hj)with⟨e,h0⟩|⟨g',mg,e,_⟩;·exact⟨none,0,by rw[e,h0]⟩
  ·exact⟨_,_,e⟩
 exact⟨p,c,fun t v hv=>h.nr.cells g rfl j hj t v (by rw[e];exact hv)⟩
theorem scOf1_any(d:Nd)(hl:d.attr.length=12)(p:Option Addr)(n c:Nat)(id:Int)(b:Nat)(W:World)(hb:W.cell? (az b 0)=some (Iq id))(tN:b<W.heap.size):
 Cw 30 #[.agg (bE d (.slice p n c)).toArray,Pq b] W fun e W'=>e=Rw (.bool (tV d id))/\Gr W W':=by
 rw[nU hl];unfold tV;generalize d.text.toArray=tx;generalize(d.kind:Int)=kd;generalize aC d 0=a0;generalize aC d 1=a1;generalize aC d 2=a2;generalize aC d 3=a3;generalize aC d 4=a4;generalize aC d 5=a5;generalize aC d 6=a6;generalize aC d 7=a7;generalize aC d 8=a8;generalize aC d 9=a9;generalize aC d 10=b0;generalize aC d 11=b1;generalize d.up=up;by_cases h1:kd=4
 ·by_cases h2:a0=id;·subst h1 h2;go_enter func30,ntmps30;go_wp2;go_ret;exact⟨by simp,(Gr.refl _).alloc _⟩
  ·have e2:(a0==id)=false:=by simpa using h2
   subst h1;go_enter func30,ntmps30;go_wp2;go_ret;exact⟨by simp[h2],(Gr.refl _).alloc _⟩
 ·have e1:(kd==4)=false:=by simpa using h1
  go_enter func30,ntmps30;go_wp2;go_ret;exact⟨by simp[h1],(Gr.refl _).alloc _⟩
theorem Ty:(prog.info? 100).map (·.size)=some 16:=by kernel_rfl
theorem idxF_any{L:List Nd}(g al b:Nat)(id:Int)(U:World)(hV:FC U g L)(hLn:L.length<=100)(hb:U.cell? (az b 0)=some (Iq id))(tN:b<U.heap.size):
 Cw 29 #[Sq g L.length al,.func (.func 30) #[] #[Pq b]] U fun e U'=>e=Rw (Iq (xp L id 0 L.length))/\Gr U U':=by
 have eg:∀args w,(callFunc 30 args).run prog w=.ok (.enter 30 args) w:=enters_of func30 (by kernel_rfl) rfl;obtain⟨m,hm⟩:=aj L.length;have HM:=qH hm;have HV:=qH hV;have HB:=qH hb;obtain⟨d0,Cq⟩:∃d,prog.underlying 100=some d/\d.isRow=true:=⟨_,underlying100,rfl⟩;rw[hm];clear hb;go_enter func29,ntmps29;go_wp2;go_loopw[8] (fun kv wr=>∃k:Nat,k<=m/\kv=Iq (k:Int)/\Hid (Gr U wr)/\Hid (xp L id 0 m=xp L id k (m-k))) (fun kv _=>m-(intOf kv).toNat);case atStart=>exact⟨0,bc _,rfl,Gr.refl _,rfl⟩
 case round=>
  obtain⟨k,hk,rfl,HG,HS⟩:=hrel;by_cases hlt:k<m
  ·have aK:(k:Int)<(m:Int):=by omega
   have dD:k<L.length:=by have:=HM.out;omega
   obtain⟨p,c,hrg⟩:=(HV.block (HG.block HV.lt)).nd k dD;have hl:=HV.len k dD;have CL:=qH<|scOf1_any (ae L k) hl p (ae L k).kids.length c id b wr ((HG.below.cell (p:=(az b 0)) tN).trans HB) (bn tN HG.below.size);have hst:xp L id k (m-k)=if tV (ae L k) id=true then(k:Int)else xp L id (k+1) (m-(k+1)):=by rw[show m-k=(m-(k+1))+1 by omega];rfl
   have HST:=qH hst;clear hst;have hi:(prog.info? 100).map (·.size)=some (bE (ae L k) (.slice p (ae L k).kids.length c)).length:=by rw[Li hl];exact Ty
   generalize qB:bE (ae L k) (.slice p (ae L k).kids.length c)=cs at hrg CL hi;clear qB;cases hq:tV (ae L k) id with
   |true=>rw[hq]at CL HST;go_wp2_with(first|(refine wpList_load_mid rfl 100 _ rfl g (k*16) rfl cs d0 hrg Cq.1 Cq.2 hi ?_)|(go_at_fn 30;refine CL.mono ?_;rintro e W2 ⟨rfl,Su⟩));go_ret;exact⟨by rw[HS.out,HST.out];simp,HG.trans Su⟩
   |false=>
    rw[hq]at CL HST;go_wp2_with(first|(refine wpList_load_mid rfl 100 _ rfl g (k*16) rfl cs d0 hrg Cq.1 Cq.2 hi ?_)|(go_at_fn 30;refine CL.mono ?_;rintro e W2 ⟨rfl,Su⟩));go_roundw;case rel=>exact⟨k+1,by omega,by go_num,HG.trans Su,by show _=_;rw[HS.out,HST.out];simp⟩
    case measure=>simp[intOf];omega
  ·have aK:¬(k:Int)<(m:Int):=by omega
   obtain rfl:k=m:=by omega
   go_wp2;go_ret;exact⟨by rw[HS.out];simp[xp],HG⟩
theorem scrollOf_any{L:List Nd}(g al:Nat)(id:Int)(U:World)(hV:FC U g L)(hLn:L.length<=100):
 Cw 17 #[Sq g L.length al,Iq id] U fun e U'=>e=Rw (Iq (l0 L id))/\Gr U U':=by
 unfold l0;by_cases h0:id=0;·subst h0;rw[if_pos rfl];go_enter func17,ntmps17;go_wp2;go_ret;exact⟨rfl,(Gr.refl _).alloc _⟩
 ·rw[if_neg h0];have e0:(id==0)=false:=by simpa using h0
  have G1:=qH<|(Gr.refl U).alloc (.cells #[Iq id] 3);have IX:=qH<|idxF_any g al U.heap.size id (U.alloc (.cells #[Iq id] 3)) (hV.block (G1.block hV.lt)) hLn (by simp) (by simp);clear hV;generalize L.length=m at IX⊢;generalize xp L id 0 m=z at IX⊢;go_enter func17,ntmps17;go_wp2_with(go_at_call 29;refine IX.mono ?_;rintro e W2 ⟨rfl,Su⟩);go_ret;exact⟨rfl,G1.trans Su⟩
def Sa(W:World)(kv:Value)(ks:List Nat):Prop:=∃p c,kv=.slice p ks.length c/\(ks=[]\/∃kb ko,p=some (az kb ko)/\kb<W.heap.size/\∀i,i<ks.length->W.cell? (az kb (ko+i))=some (Iq ((ks[i]?.getD 0:Nat):Int)))
structure Nd1(W:World)(g j:Nat)(d:Nd)(ab:Nat)(kv:Value):Prop where
 c0:W.cell? (az g (j*5))=some (Iq (d.kind:Int))
 c1:W.cell? (az g (j*5+1))=some (Sq ab 12 12)
 c2:W.cell? (az g (j*5+2))=some (.string ⟨d.text.toArray⟩)
 c3:W.cell? (az g (j*5+3))=some kv
 c4:W.cell? (az g (j*5+4))=some (Iq d.up)
 lab:ab<W.heap.size
 att:∀k,k<12->W.cell? (az ab k)=some (Iq (d.attr[k]?.getD 0))
 kids:Sa W kv d.kids
structure ip(W:World)(g n:Nat)(L:Nat->Nd):Prop where
 lt:g<W.heap.size
 nd:∀j,j<n->∃ab kv,Nd1 W g j (L j) ab kv
theorem ip.below{W W'}{g n}{L}(h:ip W g n L)(hb:Bt W W'):ip W' g n L:=by
 refine⟨bn h.lt hb.size,fun j hj=>?_⟩;obtain⟨ab,kv,q⟩:=h.nd j hj;refine⟨ab,kv,(hb.cell (p:=(az g _)) h.lt).trans q.c0,(hb.cell (p:=(az g _)) h.lt).trans q.c1,(hb.cell (p:=(az g _)) h.lt).trans q.c2,(hb.cell (p:=(az g _)) h.lt).trans q.c3,(hb.cell (p:=(az g _)) h.lt).trans q.c4,bn q.lab hb.size,fun k hk=>(hb.cell (p:=(az ab k)) q.lab).trans (q.att k hk),?_⟩;obtain⟨p,c,e,r⟩:=q.kids;refine⟨p,c,e,?_⟩;rcases r with r|⟨kb,ko,e2,h1,h2⟩;·grind
 ·exact .inr ⟨kb,ko,e2,bn h1 hb.size,fun i hi=>(hb.cell (p:=(az kb (ko+i))) h1).trans (h2 i hi)⟩
theorem GP{W:World}{B}{kv}{ks}(h:W.ownsRow B 3 1 kv ks.length (jD ks)):∃p c,kv=.slice p ks.length c/\(ks=[]\/∃kb ko,p=some (az kb ko)/\kb<W.heap.size/\∀i,i<ks.length->W.cell? (az kb (ko+i))=some (Iq ((ks[i]?.getD 0:Nat):Int))):=by
 rcases cD h with⟨rfl,h0⟩|⟨g,al,rfl,h1,h2,h3,h4⟩;·grind
 ·refine⟨_,_,rfl,.inr ⟨g,0,rfl,h2,fun i hi=>?_⟩⟩;rw[bC,h.cellAt i (by omega)];grind[jD]
theorem RD.nds{W}{B}{g al}{L}{AV}{KV}(h:RD W B (Sq g L.length al) L AV KV)(hg:g<W.heap.size):ip W g L.length (ae L):=by refine⟨hg,fun j hj=>⟨AV j,KV j,?_⟩⟩;have c:=fun t u ht=>h.nr.cells g rfl j hj t u ht;exact⟨c 0 _ rfl,c 1 _ rfl,c 2 _ rfl,c 3 _ rfl,c 4 _ rfl,(h.att j hj).2.1,fun k hk=>((h.att j hj).2.2 k hk).1,GP (h.nr.kids j hj)⟩
