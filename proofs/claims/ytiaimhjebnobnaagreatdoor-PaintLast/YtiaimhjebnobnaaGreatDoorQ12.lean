import Derived.Test.YtiaimhjebnobnaaGreatDoorQ06
import Derived.Test.YtiaimhjebnobnaaGreatDoorQ10
set_option linter.all false
set_option maxRecDepth 100000
set_option maxHeartbeats 16000000
namespace Go.Proofs.YtiaimhjebnobnaaGreatDoor
open Go.RowKit Go.Sort Go.Proofs.Tryz
theorem _b:(prog.info? 3).map (fun i=>(i.zero,i.size,i.bytes))=some (some (Iq 0),1,8):=by kernel_rfl
def dV(l:List Nat):List Int:=l.map fun(j:Nat)=>(j:Int)
theorem fM  l  :(dV l).length=l.length:=by simp[dV]
theorem Qk  l m  :dV (l++m)=dV l++dV m:=by simp[dV]
theorem qn{l}{x}(h:x∈dV l):∃j:Nat,x=j/\j∈l:=by obtain⟨j,hj,rfl⟩:=l_.1 h;grind
theorem D4{l}(h:l.Pairwise (·<·)):(dV l).Pairwise (·<·):=by grind[dV]
theorem rK{l}{B}(h:B.Perm (dV l)):∃Q,B=dV Q/\Q.Perm l:=by
 refine⟨B.map Int.toNat,?_,?_⟩
 ·have:∀x∈B,((x.toNat:Nat):Int)=x:=fun x hx=>by grind[qn]
  unfold dV;rw[List.map_map];conv=>lhs;rw[<-List.map_id B]
  exact List.map_congr_left fun x hx=>(this x hx).symm
 ·have:=h.map Int.toNat;refine this.trans ?_;unfold dV;rw[List.map_map];have:(Int.toNat∘fun(j:Nat)=>(j:Int))=id:=by funext j;simp
  simp_all
def dJ(Wt:Nat->Int)(k:Nat):List Nat:=(List.range k).filter fun j=>decide (0<Wt j)
theorem K5{Wt}{k}(h:0<Wt k):dJ Wt (k+1)=dJ Wt k++[k]:=by unfold dJ;rw[l',List.filter_append];simp[h]
theorem OZ{Wt}{k}(h:¬0<Wt k):dJ Wt (k+1)=dJ Wt k:=by unfold dJ;rw[l',List.filter_append];simp[h]
theorem K4  Wt   k  :(dJ Wt k).Pairwise (·<·):=List.pairwise_lt_range.filter _
theorem rj  Wt   k  :(dJ Wt k).length<=k:=by have:=List.length_filter_le (fun j=>decide (0<Wt j)) (List.range k);rw[JK]at this;exact this
theorem rk{Wt}{k j}(h:j∈dJ Wt k):j<k/\0<Wt j:=by grind[dJ]
theorem PH{w}{B n g cap}{zs}(h:w.ownsRow B 3 1 (Sq g n cap) n (zs.map (Value.int .i64))):bp w g 0 zs:=by
 have hl:zs.length=n:=by have:=h.1;simpa using this
 rcases h.2 with⟨h',_⟩|⟨g',dD,ik,h',hb,hg,Pd,hcm,pB,zc_⟩;·simp at h'
 ·simp only[Fb,JL,Addr.mk.injEq,and_true,true_and]at h';obtain⟨rfl,rfl⟩:=h';refine⟨(aM.1 hg).1,fun j hj=>⟨?_,frozen_of_row w g _ ik 3 hg⟩⟩;have:=h.cells (g:=g) rfl j (Iq (zs[j]?.getD 0)) (by simp[hj]);have e:((az g 0):Addr).add j=(az g (0+j)):=by unfold Addr.add;split<;>simp_all
  rwa[e]at this
def zbj(B:Nat)(W:World)(v:Value)(Q:List Nat):Prop:=(Q=[]/\v=.slice none 0 0)\/(Q≠[]/\∃g cap,v=Sq g Q.length cap/\B<=g/\Q.length<=cap/\cap<=maxLen/\bp W g 0 (dV Q))
theorem Qq{w}{B}{v}{Q}(h:w.ownsRow B 3 1 v (dV Q).length ((dV Q).map (Value.int .i64)))(bZ:Q≠[]):∃g cap,v=Sq g Q.length cap/\B<=g/\Q.length<=cap/\cap<=maxLen/\bp w g 0 (dV Q):=by have h0:=h;rcases h.2 with⟨rfl,e⟩|⟨g,cap,ik,rfl,hb,hg,h1,h2,_⟩;all_goals grind[fM,PH]
def RFl(Mn Mx Wt:Nat->Int)(i k:Nat):Prop:=(Mx i-Mn i)*Wt k<=(Mx k-Mn k)*Wt i
theorem LM(n blk off cap:Nat)(Mn Mx Wt:Nat->Int)(w:World)(h:fg w blk off n Mn Mx Wt)(hR:∀j,0<=Mx j-Mn j/\Mx j-Mn j<=1073741824/\0<=Wt j/\Wt j<=1073741824)(hn:n<=1073741824):
 Cw 227 #[.slice (some (az blk off)) n cap] w fun e w'=>∃v Q,e=Rw v/\zbj w.heap.size w' v Q/\Q.Perm (dJ Wt n)/\Q.Pairwise (RFl Mn Mx Wt)/\Bt w w':=by
 obtain⟨i0,hi,eG,fs,gd⟩:=info_parts _b;have HW:=qH<|h;have HR:=qH<|hR;have Gg:=h.1;clear h hR;go_enter func227,ntmps227;go_wp2;obtain⟨w0,hw0⟩:=ag (w.alloc (.cells #[.slice (some (az blk off)) n cap] 178));rw[hw0];have FC:w0.heap.size=w.heap.size+1:=by rw[<-hw0];simp
 have hb0:Bt w w0:=by rw[<-hw0];exact(aj _ _).alloc (ai _) _
 have zhH:w0.cell? (az w.heap.size 0)=some (.slice (some (az blk off)) n cap):=by rw[<-hw0,World.cell?_alloc_at _ _ _ _ rfl];rfl
 clear hw0;go_loopw[3,8] (fun v i wr=>∃k:Nat,i=Iq k/\k<=n/\wr.ownsRow w0.heap.size 3 1 v (dV (dJ Wt k)).length ((dV (dJ Wt k)).map (Value.int .i64))/\Bt w0 wr/\Hid (dJ Wt k=[]->v=.slice none 0 0)) (fun _ i _=>n-(intOf i).toNat);case atStart=>exact⟨0,rfl,aZ _,gF _ _ _ _,aj _ _,fun _=>rfl⟩
 case round=>
  obtain⟨k,rfl,hk,bu,hbw,zaR⟩:=hrel;by_cases hlt:k<n
  ·have aN:(k:Int)<(n:Int):=by omega
   have eQ:=(HW.below hb0).below hbw;have hc:=eQ.2 k hlt;obtain⟨a1,ha1⟩:=ag (Mn k);obtain⟨a2,ha2⟩:=ag (Mx k);obtain⟨a3,ha3⟩:=ag (Wt k);rw[ha1,ha2,ha3]at hc;have hz:=eQ.1;have hzr:=hbw.size;obtain⟨ca1,ca2,ca3⟩:=hc;have JS:=qH<|ha3;have dj:=rj Wt k;have Pf:=fM (dJ Wt k);clear eQ ha1 ha2 ha3;by_cases fZ:0<a3
   ·have HH:Hid (dJ Wt (k+1)=dJ Wt k++[k]):=K5 (by rw[JS.out];exact fZ);go_wp2_with(at_builtin;refine wpList_append_own _ rfl _ _ 61 rfl w0.heap.size 3 i0 (Iq 0) 1 8 underlying61 hi eG fs gd rfl (by decide) _ _ _ rfl ((bu.alloc _).alloc _) _ 1 1 [Iq (k:Int)] rfl rfl ?c1 ?c2 ?c3 ?c4 ?c5 ?_);case c1=>intro j u hj;have:=cell_one_new (wr.alloc (.cells #[Iq a1,Iq a2,Iq a3] 290)) (Iq (k:Int)) 3 j u hj;simp_all
    case c2=>intro u hu;simp at hu;subst hu;rfl
    case c3=>unfold maxLen;omega
    case c4=>omega
    case c5=>simp;omega
    intro v' w1 bD hg _;have hrow:=fun q hq=>(bu.lt q hq).1;have hb1:=((hbw.alloc (by omega) _).alloc (by simp;omega) _).grown hg (by simp;omega) (fun q hq=>by grind);clear hg hrow bu hbw;go_wp2;go_roundw;case rel=>refine⟨k+1,by go_num,by omega,?_,hb1,fun e=>by rw[HH.out]at e;simp at e⟩;rw[FC,HH.out,Qk,bm,np,Pf];exact bD
    case measure=>simp[intOf];omega
   ·have HH:Hid (dJ Wt (k+1)=dJ Wt k):=OZ (by rw[JS.out];exact fZ);go_wp2;go_roundw;case rel=>refine⟨k+1,by go_num,by omega,?_,hbw.alloc (by omega) _,fun e=>zaR (by rw[HH.out]at e;exact e)⟩;rw[HH.out];exact bu.alloc _
    case measure=>simp[intOf];omega
  ·have tD:¬(k:Int)<(n:Int):=by omega
   obtain rfl:k=n:=by omega
   have qS:=hb0.trans (hbw.mono (by omega));have eQ:=(HW.below hb0).below hbw;have hzr:=hbw.size;by_cases he:dJ Wt k=[];·rw[he]at bu;have hv:=zaR he;subst hv;clear eQ bu;go_wp2_with fail;refine(wG _ _).mono ?_;rintro e w2 ⟨rfl,rfl⟩;go_wp2;go_ret;exact⟨_,[],rfl,.inl ⟨rfl,rfl⟩,by rw[he],List.Pairwise.nil,qS⟩
   ·obtain⟨g,cp,rfl,sw,kU,hg3,hrow⟩:=Qq bu he;have HS:Hid (Cw 241 #[Sq g (dJ Wt k).length cp,.func (.func 242) #[] #[Pq w.heap.size]] wr fun e w'=>e=Rw (.tuple #[])/\ly wr w' g 0 (BZ (fun i=>Mx i.toNat-Mn i.toNat) (fun i=>Wt i.toNat)) [] (dV (dJ Wt k)) []):=by
     refine m9 242 #[Pq w.heap.size] (enters_of func242 (by kernel_rfl) rfl) (fun i k=>kN ((Mx i.toNat-Mn i.toNat)*Wt k.toNat) ((Mx k.toNat-Mn k.toNat)*Wt i.toNat)) (dV (dJ Wt k)) (BZ (fun i=>Mx i.toNat-Mn i.toNat) (fun i=>Wt i.toNat)) (Qo _ _ _ ?_) wr g 0 cp ?_ (dV (dJ Wt k)) wr (dJ Wt k).length (ee _ _) hrow (fun x hx=>hx) (D4 (K4 Wt k)) (fM _) (by grind[rj]);·intro x hx;obtain⟨j,rfl,hj⟩:=qn hx;have:=(rk hj).2;grind
     ·refine Ko k w.heap.size blk off cap g Mn Mx Wt wr ?_ eQ.2 (fun j _=>HR j) _ ?_ (by omega) (by omega) (by omega) (by omega) eQ.1;·exact(hbw.cell (p:=(az w.heap.size 0)) (by grind)).trans zhH
      ·intro x hx;obtain⟨j,rfl,hj⟩:=qn hx;exact⟨j,rfl,(rk hj).1⟩
    have hfin:∀w2,ly wr w2 g 0 (BZ (fun i=>Mx i.toNat-Mn i.toNat) (fun i=>Wt i.toNat)) [] (dV (dJ Wt k)) []->∃Q,Q.length=(dJ Wt k).length/\zbj w.heap.size w2 (Sq g (dJ Wt k).length cp) Q/\Q.Perm (dJ Wt k)/\Q.Pairwise (RFl Mn Mx Wt)/\Bt w w2:=by
     rintro w2 ⟨⟨M,hp,Dt,hr2⟩,fY⟩;obtain⟨Q,rfl,hq⟩:=rK hp;have hql:=hq.length_eq;refine⟨Q,hql,.inr ⟨fun e=>he (by grind),g,cp,by rw[hql],by omega,by omega,hg3,by simpa using hr2⟩,hq,?_,?_⟩;·unfold dV at Dt;rw[RF]at Dt;refine Dt.imp fun{i k} h=>?_;grind[BZ,RFl]
     ·exact qS.grown fY (by omega) (fun q hq=>by grind)
    have HF:=qH<|hfin;clear hfin eQ bu hrow;go_wp2_with fail;refine HS.mono ?_;rintro e w2 ⟨rfl,hS⟩;obtain⟨Q,hQ1,hQ2,hQ3,hQ4,hQ5⟩:=HF w2 hS;clear hS hQ1;go_wp2;go_ret;exact⟨_,Q,rfl,hQ2,hQ3,hQ4,hQ5⟩
theorem lV{P}{vL}{o}{a}{w}{K}{Q}{E}
 (hg:o.guard=none)  s x   t  (hop:o.op=Op.call {callee:=Callee.builtin Builtin.append,args:=#[s,x],argTypes:=#[t,t]})
  base   e   i   z   size bytes  (h1:P.underlying t=some (.slice e)) (h2:P.info? e=some i) (h3:i.zero=some z) (h4:i.size=size) (h5:i.bytes=bytes) (h6:z.cells.size=size) (h7:0<size)
  v   n   G6  (hs:a.eval s=v) (bu:w.ownsRow base e size v n G6)
  ad   m c   jg  (hx:a.eval x=.slice (some ad) m c) (hn:jg.length=m*size) (hc:∀j u,jg[j]?=some u->w.cell? (ad.add j)=some u) (YG:∀u∈jg,u.oneCell'=true)
 (b1:n+m<=maxLen) (b2:(n+m)*bytes<=140737488355328) (b3:base<=w.heap.size)
 (hK:∀v' w',w'.ownsRow base e size v' (n+m) (G6++jg)->w.grownBy w' v.ownBlock->K (a.put o.dst v') w'):
 if Region.wanted o (yielded vL a.tmps)=true then Oper.wp P o a w K Q else E:=by
 have hw:Region.wanted o (yielded vL a.tmps)=true:=by simp[Region.wanted,hg]
 rw[if_pos hw];obtain⟨v',w',Li,r1,r2,_⟩:=run_append_own (P:=P) w base t o.type e i z size bytes h1 h2 h3 h4 h5 h6 h7 v n G6 bu ad m c jg hn hc YG b1 b2 b3;unfold Oper.wp;simp[execOp,hop,resolve,invoke,builtin,hs,hx,Li,Result.andThen];exact hK v' w' r1 r2
