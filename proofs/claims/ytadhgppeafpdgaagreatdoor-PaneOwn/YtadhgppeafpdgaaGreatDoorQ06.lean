import Derived.Test.YtadhgppeafpdgaaGreatDoorQ00
import Derived.Deep.RegionWith
import Derived.Deep.CutRange
import Derived.Test.YtadhgppeafpdgaaGreatDoorQ02
set_option linter.all false
set_option maxRecDepth 100000
set_option maxHeartbeats 16000000
namespace Go.Proofs.YtadhgppeafpdgaaGreatDoor
open Go.RowKit Go.Proofs.Tryz
def AE(g:Nat)(lb:Array Value)(cf:Int->Int->Int)(D:List Int)(w0:World)(blk:Nat):Prop:=
 ∀W,w0.grownBy W (some blk)->∀x∈D,∀y∈D,Cw g (#[Iq x,Iq y]++lb) W fun e W'=>e=Rw (Iq (cf x y))/\Bt W W'
structure Ord(cf:Int->Int->Int)(D:List Int)(R:Int->Int->Prop):Prop where
 lt:∀x∈D,∀y∈D,cf x y<0->R x y
 ge:∀x∈D,∀y∈D,x<y->¬cf y x<0->R x y
 trans:∀x∈D,∀y∈D,∀z∈D,R x y->R y z->R x z
 bd:∀x∈D,∀y∈D,-1<=cf x y/\cf x y<=1
theorem kE{R}{B:List Int}(h:B.Pairwise R){i j}(Hr:i<j)(hj:j<B.length):R (B[i]?.getD 0) (B[j]?.getD 0):=by rw[di hj,di (by omega)];exact QY.1 h i j (by omega) hj Hr
theorem eR{B:List Int}{i}(hi:i<B.length):B[i]?.getD 0∈B:=by grind
theorem jr{B:List Int}{c}{y}(h:y∈B.take c):∃k,k<c/\k<B.length/\B[k]?.getD 0=y:=by obtain⟨k,hk,e⟩:=rP.1 h;rw[bU]at hk;refine⟨k,by omega,by omega,?_⟩;grind
theorem lD{B:List Int}{c}{y}(h:y∈B.drop c):∃k,c<=k/\k<B.length/\B[k]?.getD 0=y:=by obtain⟨k,hk,e⟩:=rP.1 h;rw[dL]at hk;refine⟨c+k,by omega,by omega,?_⟩;grind
theorem pT(X:List Int)  p q   Y  :(X++[p]++[q]++Y)[X.length]?.getD 0=p/\(X++[p]++[q]++Y)[X.length+1]?.getD 0=q:=by grind
theorem vx  X   p q   Y  :swp (X++[p]++[q]++Y) X.length (X.length+1)=X++[q]++[p]++Y:=by have:=x_ X [p] [] [q] Y rfl;simp only[ik,cP,fh,vJ,cB]at this;exact this
theorem j'(B:List Int)  e  (h:e<B.length):B.take (e+1)=B.take e++[B[e]?.getD 0]/\B.drop e=[B[e]?.getD 0]++B.drop (e+1):=by simp_all
theorem Qz(g:Nat)(lb:Array Value)(eg:∀args w,(callFunc g args).run prog w=.ok (.enter g args) w)(cf:Int->Int->Int)(D:List Int)(R:Int->Int->Prop)(hO:Ord cf D R)(w0:World)(P:List Int)(x:Int)(B S:List Int)(blk off cap:Nat)(hcmp:AE g lb cf D w0 blk)(w:World)(hw0:w0.grownBy w (some blk))(h:aN w blk off (P++[x]++B++S))
 (hx:x∈D) (hB:∀y∈B,y∈D) (hBp:B.Pairwise R) (hT:∀y∈B,x<y) (oI:0<B.length) (aO:(P++[x]++B++S).length<=1099511627776):
 Cw 289 #[.slice (some (aq blk off)) (P++[x]++B++S).length cap,Iq P.length,Iq ((P.length+1:Nat):Int),Iq ((P.length+1+B.length:Nat):Int),.func (.func g) #[] lb] w fun e w'=>e=Rw (.tuple #[])/\(∃B1 B2,B=B1++B2/\(∀y∈B1,R y x)/\(∀y∈B2,R x y)/\aN w' blk off (P++B1++[x]++B2++S))/\w.grownBy w' (some blk):=by
 have HR:=qH<|h;have HO:=qH<|hO;have LM:=qH<|hw0;have VC:=qH<|hcmp;have Ry:=qH<|hx;have kZ:=qH<|hB;have VA:=qH<|hBp;have HTB:=qH<|hT;obtain⟨n,hn⟩:=af ((P++[x]++B++S).length);obtain⟨a,ha⟩:=af P.length;obtain⟨b,hb⟩:=af (P.length+1+B.length);obtain⟨m,hm⟩:=af (P.length+1);have Ho:b<=n:=by rw[<-hb,<-hn];simp only[aI,cP,fh];omega
 have hma:(m:Int)-(a:Int)=1:=by omega
 have znN:b<=m+B.length:=by omega
 have znO:m+B.length<=b:=by omega
 have zg3:m<=a+1:=by omega
 have zg4:a+1<=m:=by omega
 have HN:=qH<|hn;have HA:=qH<|ha;have HX:Hid ((P++[x]++B++S)[a]?.getD 0=x):=by show _=_;rw[<-ha];simp[bY]
 have HBt:Hid (∀t,t<B.length->(P++[x]++B++S)[m+t]?.getD 0=B[t]?.getD 0):=by intro t ht;rw[iJ,if_pos (by grind),iJ,if_neg (by grind)];congr 2;simp only[aI,cP,fh];omega
 rw[hn]at aO⊢;rw[hb,hm,ha];clear h hO hw0 hcmp hx hB hBp hT hn ha hb hm;go_enter func289,ntmps289;go_wp2;go_loopw[10,11] (fun i j wr=>∃s t:Nat,i=Iq s/\j=Iq t/\m<=s/\s<=t/\t<=b/\Hid (∀k,m+k<s->R (B[k]?.getD 0) x)/\Hid (∀k,t<=m+k->k<B.length->R x (B[k]?.getD 0))/\Hid (aN wr blk off (P++[x]++B++S))/\Hid (w.grownBy wr (some blk))) (fun i j _=>(intOf j).toNat-(intOf i).toNat);case atStart=>exact⟨m,b,rfl,rfl,ae _,by omega,ae _,fun k hk=>by omega,fun k h1 h2=>by omega,HR,dl _ _⟩
 case round=>
  obtain⟨s,t,rfl,rfl,qk,uy,htb,ri,KA,hrow,fd⟩:=hrel;by_cases hlt:s<t
  ·have aR:(s:Int)<(t:Int):=by omega
   obtain⟨q,hq⟩:∃q:Nat,(s+t)/2=q:=⟨_,rfl⟩;have hqi:((s:Int)+(t:Int))/2=(q:Int):=by omega
   have lA:s<=q:=by omega
   have nT:q<t:=by omega
   have hqn:(q:Int)<(n:Int):=by omega
   have han:(a:Int)<(n:Int):=by omega
   obtain⟨k,hk⟩:∃k,q=m+k:=⟨q-m,by omega⟩;have Yx:k<B.length:=by omega
   obtain⟨y,hy⟩:=af (B[k]?.getD 0);have HY:=qH<|hy;have HK:=qH<|hk;have OY:Hid (y∈B):=by show y∈B;rw[<-hy];exact eR Yx
   have OH:=HN.out;have c0:wr.cell? (aq blk (off+q))=some (Iq y):=by rw[(hrow.2 q (by omega)).1,hk,HBt k Yx,hy]
   have c1:wr.cell? (aq blk (off+a))=some (Iq x):=by rw[(hrow.2 a (by omega)).1,HX.out]
   have ii:Hid (Cw g (#[Iq y,Iq x]++lb) wr.drew fun e W'=>e=Rw (Iq (cf y x))/\Bt wr W'):=by refine(VC wr.drew (fx (grown_trans LM fd)) y (kZ y OY) x Ry).mono ?_;rintro e w2 ⟨rfl,b2⟩;exact⟨rfl,(ag wr.heap.size wr).drew.trans b2⟩
   obtain⟨z,hz⟩:=af (cf y x);have HZ:=qH<|hz;rw[hz]at ii;clear hq hk hy OH hz;go_wp2_with fail;go_cut[50]from 40 to 50 (fun v wx=>v=.bool (decide (z<0))/\Bt wr wx);case first=>
    go_region_with(refine ii.mono ?_;rintro e wq ⟨rfl,bq⟩);all_goals(go_wp2_with fail)
    all_goals go_meet
    all_goals simp_all
   case rest=>
    obtain⟨rfl,bx⟩:=hcut;have ij:=qH<|hrow.below bx;have oJ:=qH<|grown_trans fd (grown_below bx);clear hrow fd c0 c1 ii;by_cases dJ:z<0
    ·have OG:Hid (∀k',m+k'<q+1->R (B[k']?.getD 0) x):=by
      intro k' KB;have Mc:=HO.lt y (kZ y OY) x Ry (by rw[HZ.out];exact dJ);by_cases e:k'=k;·subst e;rw[HY.out];exact Mc
      ·have jd:k'<k:=by have:=HK.out;omega
       have h1:=kE VA jd Yx;rw[HY.out]at h1;exact HO.trans _ (kZ _ (eR (by omega))) y (kZ y OY) x Ry h1 Mc
     go_wp2;go_roundw;case rel=>exact⟨q+1,t,by go_num,rfl,by omega,by omega,htb,OG,KA,ij,oJ⟩
     case measure=>simp[intOf];omega
    ·have Ty:Hid (∀k',q<=m+k'->k'<B.length->R x (B[k']?.getD 0)):=by
      intro k' KB cZ;have Ay:=HO.ge x Ry y (kZ y OY) (HTB y OY) (by rw[HZ.out];exact dJ);by_cases e:k'=k;·subst e;rw[HY.out];exact Ay
      ·have jd:k<k':=by have:=HK.out;omega
       have h1:=kE VA jd cZ;rw[HY.out]at h1;exact HO.trans x Ry y (kZ y OY) _ (kZ _ (eR cZ)) Ay h1
     go_wp2;go_roundw;case rel=>exact⟨s,q,rfl,rfl,qk,by omega,by omega,ri,Ty,ij,oJ⟩
     case measure=>simp[intOf];omega
  ·have aR:¬(s:Int)<(t:Int):=by omega
   obtain rfl:s=t:=by omega
   obtain⟨c,hc⟩:∃c,s=m+c:=⟨s-m,by omega⟩;have HCc:=qH<|hc;have hc1:s<=m+c:=by omega
   have E4:m+c<=s:=by omega
   have hcB:c<=B.length:=by omega
   have HB1:Hid (∀y∈B.take c,R y x):=by intro y hy;obtain⟨k,hk,_,e⟩:=jr hy;rw[<-e];exact ri k (by omega)
   have HB2:Hid (∀y∈B.drop c,R x y):=by intro y hy;obtain⟨k,hk,cZ,e⟩:=lD hy;rw[<-e];exact KA k (by omega) cZ
   clear hc;go_wp2;go_loopw[13] (fun i wr=>∃e u:Nat,a+e<=u/\u<=a+e/\i=Iq u/\e<=c/\Hid (aN wr blk off (P++B.take e++[x]++B.drop e++S))/\Hid (w.grownBy wr (some blk))) (fun i _=>s-(intOf i).toNat);case atStart=>exact⟨0,a,by omega,by omega,rfl,bm _,by simp_all,fd⟩
   case round=>
    obtain⟨e,u,Hz,OS,rfl,Tw,jp,hgr2⟩:=hrel;by_cases zg1:e<c
    ·have zu:(u:Int)<(s:Int)-1:=by omega
     have heB:e<B.length:=by omega
     obtain⟨y,hy⟩:=af (B[e]?.getD 0);obtain⟨OP,TO⟩:=j' B e heB;rw[hy]at OP TO;obtain⟨v,hv⟩:=af (u+1);have hvi:(u:Int)+1=(v:Int):=by omega
     have huv:u<v:=by omega
     have Am:(P++B.take e).length=u:=by have:=HA.out;rw[aI,bU];omega
     have HL2:(P++B.take e++[x]++B.drop e++S).length=n:=by have:=HN.out;simp only[aI,bU,dL,cP,fh]at*;omega
     have hd:P++B.take e++[x]++B.drop e++S=(P++B.take e)++[x]++[y]++(B.drop (e+1)++S):=by rw[TO];simp[bY]
     have hr1:=jp.out;rw[hd]at hr1 HL2;have hdx:((P++B.take e)++[x]++[y]++(B.drop (e+1)++S))[u]?.getD 0=x:=by rw[<-Am];exact(pT _ _ _ _).1
     have hdy:((P++B.take e)++[x]++[y]++(B.drop (e+1)++S))[v]?.getD 0=y:=by rw[<-hv,<-Am];exact(pT _ _ _ _).2
     have c0:wr.cell? (aq blk (off+u))=some (Iq x):=by rw[(hr1.2 u (by omega)).1,hdx]
     have f0:=(hr1.2 u (by omega)).2;have c1:wr.cell? (aq blk (off+v))=some (Iq y):=by rw[(hr1.2 v (by omega)).1,hdy]
     have f1:=(hr1.2 v (by omega)).2;have Ev:Hid (aN ((wr.setCell (aq blk (off+u)) (Iq y)).setCell (aq blk (off+v)) (Iq x)) blk off (P++B.take (e+1)++[x]++B.drop (e+1)++S)):=by have:=mz hr1 u v (by omega) (by omega);rw[hdx,hdy]at this;have jD:=vx (P++B.take e) x y (B.drop (e+1)++S);rw[Am,hv]at jD;rw[jD]at this;show aN _ _ _ _;rw[OP];simpa[bY]using this
     have HG:Hid (w.grownBy ((wr.setCell (aq blk (off+u)) (Iq y)).setCell (aq blk (off+v)) (Iq x)) (some blk)):=
      grown_trans hgr2 (grown_trans (eK _ _ _ _) (eK _ _ _ _));have hun:(u:Int)<(n:Int):=by omega
     have hvn:(v:Int)<(n:Int):=by omega
     have hwv:IntKind.i64.wrap (v:Int)=(v:Int):=IntWalk.i64_in _ ⟨by omega,by omega⟩;clear hr1 hd hdx hdy OP TO hy HL2 Am hv jp hgr2;go_wp2;go_big_region;go_wp2;go_roundw;case rel=>exact⟨e+1,v,by omega,by omega,rfl,by omega,Ev,fx HG⟩
     case measure=>simp[intOf];omega
    ·have zu:¬(u:Int)<(s:Int)-1:=by omega
     obtain rfl:e=c:=by omega
     go_wp2;try simp only[Exit.inBlock,Exit.then]
     refine bodyPost_ret (results_none rfl _ _ _) rfl ?_;exact⟨rfl,⟨B.take e,B.drop e,(gy _ _).symm,HB1,HB2,by simpa[bY]using jp.out⟩,hgr2⟩
theorem DO  d   i j  (hi:i<d.length) (hj:j<d.length):swp d i j=swp d j i:=by grind[xN,od,Gj]
theorem LA(g:Nat)(lb:Array Value)(eg:∀args w,(callFunc g args).run prog w=.ok (.enter g args) w)(cf:Int->Int->Int)(D:List Int)(R:Int->Int->Prop)(hO:Ord cf D R)(w0:World)(P A:List Int)(y:Int)(S:List Int)(blk off cap:Nat)(hcmp:AE g lb cf D w0 blk)(w:World)(hw0:w0.grownBy w (some blk))(h:aN w blk off (P++A++[y]++S))
 (hy:y∈D) (hA:∀x∈A,x∈D) (hAp:A.Pairwise R) (hT:∀x∈A,x<y) (Z3:2<=A.length) (aO:(P++A++[y]++S).length<=1099511627776):
 Cw 289 #[.slice (some (aq blk off)) (P++A++[y]++S).length cap,Iq P.length,Iq ((P.length+A.length:Nat):Int),Iq ((P.length+A.length+1:Nat):Int),.func (.func g) #[] lb] w fun e w'=>e=Rw (.tuple #[])/\(∃A1 A2,A=A1++A2/\(∀x∈A1,R x y)/\(∀x∈A2,R y x)/\aN w' blk off (P++A1++[y]++A2++S))/\w.grownBy w' (some blk):=by
 have HR:=qH<|h;have HO:=qH<|hO;have LM:=qH<|hw0;have VC:=qH<|hcmp;have HYD:=qH<|hy;have yA:=qH<|hA;have Vy:=qH<|hAp;have HTA:=qH<|hT;have sV:prog.follows .mixedOrders=true:=by kernel_rfl
 obtain⟨n,hn⟩:=af ((P++A++[y]++S).length);obtain⟨a,ha⟩:=af P.length;obtain⟨b,hb⟩:=af (P.length+A.length+1);obtain⟨m,hm⟩:=af (P.length+A.length);have Ho:b<=n:=by rw[<-hb,<-hn];simp only[aI,cP,fh];omega
 have hma:¬(m:Int)-(a:Int)=1:=by omega
 have hbm:(b:Int)-(m:Int)=1:=by omega
 have zg5:((m:Int)-(a:Int)==1)=false:=by simpa using hma
 have zgr:((b:Int)-(m:Int)==1)=true:=by simpa using hbm
 have zg3:m<=a+A.length:=by omega
 have zg4:a+A.length<=m:=by omega
 have hmb:m<b:=by omega
 have HN:=qH<|hn;have HA:=qH<|ha;have HX:Hid ((P++A++[y]++S)[m]?.getD 0=y):=by
  show _=_;have:(P++A).length=m:=by rw[aI];omega
  rw[<-this,bY (P++A),yg (ae _),Nat.sub_self];rfl
 have HAt:Hid (∀t,t<A.length->(P++A++[y]++S)[a+t]?.getD 0=A[t]?.getD 0):=by intro t ht;rw[iJ,if_pos (by grind),iJ,if_pos (by grind),iJ,if_neg (by omega)];congr 2;omega
 rw[hn]at aO⊢;rw[hb,hm,ha];clear h hO hw0 hcmp hy hA hAp hT hn ha hb hm;go_enter func289,ntmps289;go_wp2;go_loopw[14,15] (fun i j wr=>∃s t:Nat,i=Iq s/\j=Iq t/\a<=s/\s<=t/\t<=m/\Hid (∀k,a+k<s->R (A[k]?.getD 0) y)/\Hid (∀k,t<=a+k->k<A.length->R y (A[k]?.getD 0))/\Hid (aN wr blk off (P++A++[y]++S))/\Hid (w.grownBy wr (some blk))) (fun i j _=>(intOf j).toNat-(intOf i).toNat);case atStart=>exact⟨a,m,rfl,rfl,ae _,by omega,ae _,fun k hk=>by omega,fun k h1 h2=>by omega,HR,dl _ _⟩
 case round=>
  obtain⟨s,t,rfl,rfl,qk,uy,htb,ri,KA,hrow,fd⟩:=hrel;by_cases hlt:s<t
  ·have aR:(s:Int)<(t:Int):=by omega
   obtain⟨q,hq⟩:∃q:Nat,(s+t)/2=q:=⟨_,rfl⟩;have hqi:((s:Int)+(t:Int))/2=(q:Int):=by omega
   have lA:s<=q:=by omega
   have nT:q<t:=by omega
   have hqn:(q:Int)<(n:Int):=by omega
   have Em:(m:Int)<(n:Int):=by omega
   obtain⟨k,hk⟩:∃k,q=a+k:=⟨q-a,by omega⟩;have E_:k<A.length:=by omega
   obtain⟨x,hx⟩:=af (A[k]?.getD 0);have HY:=qH<|hx;have HK:=qH<|hk;have OX:Hid (x∈A):=by show x∈A;rw[<-hx];exact eR E_
   have OH:=HN.out;have c0:wr.cell? (aq blk (off+q))=some (Iq x):=by rw[(hrow.2 q (by omega)).1,hk,HAt k E_,hx]
   have c1:wr.cell? (aq blk (off+m))=some (Iq y):=by rw[(hrow.2 m (by omega)).1,HX.out]
   have ii:Hid (Cw g (#[Iq y,Iq x]++lb) wr.drew fun e W'=>e=Rw (Iq (cf y x))/\Bt wr W'):=by refine(VC wr.drew (fx (grown_trans LM fd)) y HYD x (yA x OX)).mono ?_;rintro e w2 ⟨rfl,b2⟩;exact⟨rfl,(ag wr.heap.size wr).drew.trans b2⟩
   obtain⟨z,hz⟩:=af (cf y x);have HZ:=qH<|hz;rw[hz]at ii;clear hq hk hx OH hz;go_wp2_with fail;go_cut[103]from 92 to 103 (fun v wx=>v=.bool (!decide (z<0))/\Bt wr wx);case first=>
    go_region_with(refine ii.mono ?_;rintro e wq ⟨rfl,bq⟩);all_goals(go_wp2_with fail)
    all_goals go_meet
    all_goals simp_all
   case rest=>
    obtain⟨rfl,bx⟩:=hcut;have ij:=qH<|hrow.below bx;have oJ:=qH<|grown_trans fd (grown_below bx);clear hrow fd c0 c1 ii;by_cases dJ:z<0
    ·have Ty:Hid (∀k',q<=a+k'->k'<A.length->R y (A[k']?.getD 0)):=by
      intro k' KB cZ;have Mc:=HO.lt y HYD x (yA x OX) (by rw[HZ.out];exact dJ);by_cases e:k'=k;·subst e;rw[HY.out];exact Mc
      ·have jd:k<k':=by have:=HK.out;omega
       have h1:=kE Vy jd cZ;rw[HY.out]at h1;exact HO.trans y HYD x (yA x OX) _ (yA _ (eR cZ)) Mc h1
     have hd:(!decide (z<0))=false:=by simp[dJ]
     rw[hd];go_wp2;go_roundw;case rel=>grind
     case measure=>simp[intOf];omega
    ·have OG:Hid (∀k',a+k'<q+1->R (A[k']?.getD 0) y):=by
      intro k' KB;have Ay:=HO.ge x (yA x OX) y HYD (HTA x OX) (by rw[HZ.out];exact dJ);by_cases e:k'=k;·subst e;rw[HY.out];exact Ay
      ·have jd:k'<k:=by have:=HK.out;omega
       have h1:=kE Vy jd E_;rw[HY.out]at h1;exact HO.trans _ (yA _ (eR (by omega))) x (yA x OX) y HYD h1 Ay
     have hd:(!decide (z<0))=true:=by simp[dJ]
     rw[hd];go_wp2;go_roundw;case rel=>exact⟨q+1,t,by go_num,rfl,by omega,by omega,htb,OG,KA,ij,oJ⟩
     case measure=>simp[intOf];omega
  ·have aR:¬(s:Int)<(t:Int):=by omega
   obtain rfl:s=t:=by omega
   obtain⟨c,hc⟩:∃c,s=a+c:=⟨s-a,by omega⟩;have hc1:s<=a+c:=by omega
   have E4:a+c<=s:=by omega
   have hcA:c<=A.length:=by omega
   have Sl:Hid (∀x∈A.take c,R x y):=by intro x hx;obtain⟨k,hk,_,e⟩:=jr hx;rw[<-e];exact ri k (by omega)
   have Xf:Hid (∀x∈A.drop c,R y x):=by intro x hx;obtain⟨k,hk,cZ,e⟩:=lD hx;rw[<-e];exact KA k (by omega) cZ
   clear hc;go_wp2;go_loopw[17] (fun i wr=>∃e u:Nat,a+e<=u/\u<=a+e/\i=Iq u/\c<=e/\e<=A.length/\Hid (aN wr blk off (P++A.take e++[y]++A.drop e++S))/\Hid (w.grownBy wr (some blk))) (fun i _=>(intOf i).toNat);case atStart=>exact⟨A.length,m,by omega,by omega,rfl,by omega,ae _,by simp_all,fd⟩
   case round=>
    obtain⟨e1,u,Hz,OS,rfl,Tw,heA,jp,hgr2⟩:=hrel;by_cases zg1:c<e1
    ·have zu:(s:Int)<(u:Int):=by omega
     obtain⟨e,rfl⟩:∃e,e1=e+1:=⟨e1-1,by omega⟩;have zgA:e<A.length:=by omega
     obtain⟨x,hx⟩:=af (A[e]?.getD 0);obtain⟨OP,TO⟩:=j' A e zgA;rw[hx]at OP TO;obtain⟨v,hv⟩:∃v,v+1=u:=⟨u-1,by omega⟩;have hvi:(u:Int)-1=(v:Int):=by omega
     have huv:v<u:=by omega
     have Am:(P++A.take e).length=v:=by have:=HA.out;rw[aI,bU];omega
     have HL2:(P++A.take (e+1)++[y]++A.drop (e+1)++S).length=n:=by have:=HN.out;simp only[aI,bU,dL,cP,fh]at*;omega
     have hd:P++A.take (e+1)++[y]++A.drop (e+1)++S=(P++A.take e)++[x]++[y]++(A.drop (e+1)++S):=by rw[OP];simp[bY]
     have hr1:=jp.out;rw[hd]at hr1 HL2;have hdx:((P++A.take e)++[x]++[y]++(A.drop (e+1)++S))[v]?.getD 0=x:=by rw[<-Am];exact(pT _ _ _ _).1
     have hdy:((P++A.take e)++[x]++[y]++(A.drop (e+1)++S))[u]?.getD 0=y:=by rw[<-hv,<-Am];exact(pT _ _ _ _).2
     have c0:wr.cell? (aq blk (off+v))=some (Iq x):=by rw[(hr1.2 v (by omega)).1,hdx]
     have f0:=(hr1.2 v (by omega)).2;have c1:wr.cell? (aq blk (off+u))=some (Iq y):=by rw[(hr1.2 u (by omega)).1,hdy]
     have f1:=(hr1.2 u (by omega)).2;have Ev:Hid (aN ((wr.setCell (aq blk (off+u)) (Iq x)).setCell (aq blk (off+v)) (Iq y)) blk off (P++A.take e++[y]++A.drop e++S)):=by have:=mz hr1 u v (by omega) (by omega);rw[hdx,hdy,DO _ _ _ (by omega) (by omega)]at this;have jD:=vx (P++A.take e) x y (A.drop (e+1)++S);rw[Am,hv]at jD;rw[jD]at this;show aN _ _ _ _;rw[TO];simpa[bY]using this
     have HG:Hid (w.grownBy ((wr.setCell (aq blk (off+u)) (Iq x)).setCell (aq blk (off+v)) (Iq y)) (some blk)):=
      grown_trans hgr2 (grown_trans (eK _ _ _ _) (eK _ _ _ _));have hun:(u:Int)<(n:Int):=by omega
     have hvn:(v:Int)<(n:Int):=by omega
     have hwv:IntKind.i64.wrap (v:Int)=(v:Int):=IntWalk.i64_in _ ⟨by omega,by omega⟩;clear hr1 hd hdx hdy OP TO hx HL2 Am hv jp hgr2;go_wp2;go_big_region;go_wp2;go_roundw;case rel=>exact⟨e,v,by omega,by omega,rfl,by omega,by omega,Ev,fx HG⟩
     case measure=>simp[intOf];omega
    ·have zu:¬(s:Int)<(u:Int):=by omega
     obtain rfl:e1=c:=by omega
     go_wp2;try simp only[Exit.inBlock,Exit.then]
     refine bodyPost_ret (results_none rfl _ _ _) rfl ?_;exact⟨rfl,⟨A.take e1,A.drop e1,(gy _ _).symm,Sl,Xf,by simpa[bY]using jp.out⟩,hgr2⟩
theorem Wb{cf}{D}{R}(hO:Ord cf D R){X Y:List Int}(hX:X.Pairwise R)(hY:Y.Pairwise R)(hXD:∀x∈X,x∈D)(hYD:∀y∈Y,y∈D)  i j  (hi:i<=X.length)
 (h:0<i->j<Y.length->R (X[i-1]?.getD 0) (Y[j]?.getD 0)):∀x∈X.take i,∀y∈Y.drop j,R x y:=by
 intro x hx y hy;obtain⟨k,hk,cZ,rfl⟩:=jr hx;obtain⟨l,hl,Yy,rfl⟩:=lD hy;have h0:=h (by omega) (by omega);have h1:R (X[k]?.getD 0) (Y[j]?.getD 0):=by
  by_cases e:k=i-1;·grind
  ·exact hO.trans _ (hXD _ (eR cZ)) _ (hXD _ (eR (by omega))) _ (hYD _ (eR (by omega))) (kE hX (by omega) (by omega)) h0
 by_cases e:l=j;·grind
 ·exact hO.trans _ (hXD _ (eR cZ)) _ (hYD _ (eR (by omega))) _ (hYD _ (eR Yy)) h1 (kE hY (by omega) Yy)
theorem Kj(A1 A2 B1 B2 M1 M2:List Int)(h1:M1.Perm (A1++B1))(h2:M2.Perm (A2++B2)):(M1++M2).Perm ((A1++A2)++(B1++B2)):=by grind
theorem Ki{R}(A1 A2 B1 B2 M1 M2:List Int)(h1:M1.Perm (A1++B1))(h2:M2.Perm (A2++B2))(p1:M1.Pairwise R)(p2:M2.Pairwise R)(hA:(A1++A2).Pairwise R)(hB:(B1++B2).Pairwise R)(c1:∀x∈A1,∀y∈B2,R x y)(c2:∀x∈B1,∀y∈A2,R x y):(M1++M2).Pairwise R:=by grind
def tz(w w':World)(blk off:Nat)(R:Int->Int->Prop)(P A B S:List Int):Prop:=
 (∃M:List Int,M.Perm (A++B)/\M.Pairwise R/\aN w' blk off (P++M++S))/\w.grownBy w' (some blk)
def VV(g:Nat)(lb:Array Value)(cf:Int->Int->Int)(D:List Int)(R:Int->Int->Prop)(w0:World)(blk off cap:Nat)(N:Nat):Prop:=
 ∀(P A B S:List Int) (w:World) (n a m b:Nat),A.length+B.length<=N->w0.grownBy w (some blk)->aN w blk off (P++A++B++S)->(∀x∈A,x∈D)->(∀x∈B,x∈D)->A.Pairwise R->B.Pairwise R->(∀x∈A,∀y∈B,x<y)->0<A.length->0<B.length->(P++A++B++S).length=n->n<=1099511627776->P.length=a->P.length+A.length=m->P.length+A.length+B.length=b->
  Cw 289 #[.slice (some (aq blk off)) n cap,Iq a,Iq m,Iq b,.func (.func g) #[] lb] w fun e w'=>e=Rw (.tuple #[])/\tz w w' blk off R P A B S
theorem ID{A:List Int}(h:A.length=1):∃x,A=[x]:=by
 match A,h with
 |[x],_=>exact⟨x,rfl⟩
theorem Qy(g:Nat)(lb:Array Value)(eg:∀args w,(callFunc g args).run prog w=.ok (.enter g args) w)(cf:Int->Int->Int)(D:List Int)(R:Int->Int->Prop)(hO:Ord cf D R)(w0:World)(blk off cap:Nat)(hcmp:AE g lb cf D w0 blk)(N:Nat)(IH:VV g lb cf D R w0 blk off cap N)(P A B S:List Int)(w:World)(n a m b:Nat)(hN:A.length+B.length<=N+1)(hw0:w0.grownBy w (some blk))(h:aN w blk off (P++A++B++S))(hAD:∀x∈A,x∈D)(hBD:∀x∈B,x∈D)(hAP:A.Pairwise R)(hBP:B.Pairwise R)(hlt:∀x∈A,∀y∈B,x<y)(Z3:2<=A.length)(oI:2<=B.length)(hn:(P++A++B++S).length=n)(aO:n<=1099511627776)(ha:P.length=a)(hm:P.length+A.length=m)(hb:P.length+A.length+B.length=b):
 Cw 289 #[.slice (some (aq blk off)) n cap,Iq a,Iq m,Iq b,.func (.func g) #[] lb] w fun e w'=>e=Rw (.tuple #[])/\tz w w' blk off R P A B S:=by
 have HR:=qH<|h;have HO:=qH<|hO;have LM:=qH<|hw0;have VC:=qH<|hcmp;have HI:=qH<|IH;have yA:=qH<|hAD;have kZ:=qH<|hBD;have Vy:=qH<|hAP;have VA:=qH<|hBP;have HT:=qH<|hlt;have sV:prog.follows .mixedOrders=true:=by kernel_rfl
 have Ho:b<=n:=by rw[<-hb,<-hn];simp only[aI];omega
 have zg5:((m:Int)-(a:Int)==1)=false:=by
  have:¬(m:Int)-(a:Int)=1:=by omega
  simpa using this
 have zgr:((b:Int)-(m:Int)==1)=false:=by
  have:¬(b:Int)-(m:Int)=1:=by omega
  simpa using this
 have rj:m<=a+A.length:=by omega
 have hm2:a+A.length<=m:=by omega
 have hb1:b<=m+B.length:=by omega
 have dE:m+B.length<=b:=by omega
 have HN:=qH<|hn;have HA:=qH<|ha;have HAt:Hid (∀t,t<A.length->(P++A++B++S)[a+t]?.getD 0=A[t]?.getD 0):=by intro t ht;rw[iJ,if_pos (by grind),iJ,if_pos (by grind),iJ,if_neg (by omega)];congr 2;omega
 have HBt:Hid (∀t,t<B.length->(P++A++B++S)[m+t]?.getD 0=B[t]?.getD 0):=by intro t ht;rw[iJ,if_pos (by grind),iJ,if_neg (by grind)];congr 2;simp only[aI];omega
 obtain⟨dM,zbR⟩:∃dM:Nat,(a+b)/2=dM:=⟨_,rfl⟩;have zkn:((a:Int)+(b:Int))/2=(dM:Int):=by omega
 have zkl:a+b<=2*dM+1:=by omega
 have zkm:2*dM<=a+b:=by omega
 obtain⟨n',YA⟩:∃n':Nat,dM+m=n':=⟨_,rfl⟩;have _n:(dM:Int)+(m:Int)=(n':Int):=by omega
 obtain⟨p,hp⟩:∃p:Nat,n'-1=p:=⟨_,rfl⟩;have hpi:(n':Int)-1=(p:Int):=by omega
 have HP':Hid (p+1=dM+m/\n'=dM+m):=⟨by omega,by omega⟩;have hnb:n'<=2199023255552:=by omega
 have ql:p<=2199023255552:=by omega
 obtain⟨sb,Ma⟩:∃sb:Int,(n':Int)-(b:Int)=sb:=⟨_,rfl⟩;have hsbi:sb=(dM:Int)+(m:Int)-(b:Int):=by omega
 have HSB:=qH<|hsbi;have zhx:-2199023255552<=sb:=by omega
 have zhy:sb<=2199023255552:=by omega
 clear h hO hw0 hcmp IH hAD hBD hAP hBP hlt hn ha hm hb zbR YA hp hsbi;go_enter func289,ntmps289;go_upto_if 140 with fail;go_cut[20,21]from 140 to 146 (fun i j wx=>∃s0 r0:Nat,i=Iq s0/\j=Iq r0/\a<=s0/\s0<=r0/\r0<=m/\r0<=dM/\dM+m<=s0+b/\Hid ((dM+m<=s0+b/\s0+b<=dM+m/\dM<=r0)\/(s0=a/\r0=m))/\w=wx);case first=>
  by_cases hc:dM<m
  ·have Yh:(dM:Int)<(m:Int):=by omega
   go_wp2_with fail;go_meet;exact⟨dM+m-b,dM,by grind,rfl,by omega,by omega,by omega,ae _,by omega,Or.inl ⟨by omega,by omega,ae _⟩,rfl⟩
  ·have Yh:¬(dM:Int)<(m:Int):=by omega
   go_wp2_with fail;go_meet;exact⟨a,m,rfl,rfl,ae _,by omega,ae _,by omega,by omega,Or.inr ⟨rfl,rfl⟩,rfl⟩
 case rest=>
  obtain⟨s0,r0,rfl,rfl,has,OO,RY,zkF,zo9,HD,rfl⟩:=hcut;clear Ma zhx zhy HSB;go_wp2;go_loopw[20,21] (fun i j wr=>∃s r:Nat,i=Iq s/\j=Iq r/\s0<=s/\s<=r/\r<=r0/\Hid (s0<s->R (A[s-1-a]?.getD 0) (B[dM-s]?.getD 0))/\Hid (r<r0->R (B[dM-1-r]?.getD 0) (A[r-a]?.getD 0))/\Hid (aN wr blk off (P++A++B++S))/\Hid (w.grownBy wr (some blk))) (fun i j _=>(intOf j).toNat-(intOf i).toNat);case atStart=>exact⟨s0,r0,rfl,rfl,ae _,OO,ae _,fun h=>by omega,fun h=>by omega,HR,dl _ _⟩
  case round=>
   obtain⟨s,r,rfl,rfl,_w,zo',ux,ri,KA,hrow,fd⟩:=hrel;by_cases hlt:s<r
   ·have aR:(s:Int)<(r:Int):=by omega
    obtain⟨q,hq⟩:∃q:Nat,(s+r)/2=q:=⟨_,rfl⟩;have hqi:((s:Int)+(r:Int))/2=(q:Int):=by omega
    have lA:s<=q:=by omega
    have nT:q<r:=by omega
    have hqn:(q:Int)<(n:Int):=by omega
    obtain⟨u,hu⟩:∃u:Nat,dM+m-1-q=u:=⟨_,rfl⟩;have hui:(p:Int)-(q:Int)=(u:Int):=by have:=HP'.out;omega
    have hun:(u:Int)<(n:Int):=by omega
    have HU:Hid (u=m+(dM-1-q)):=by show _=_;omega
    have hwu:IntKind.i64.wrap (u:Int)=(u:Int):=IntWalk.i64_in _ ⟨by omega,by omega⟩;have E_:q-a<A.length:=by omega
    have Yx:dM-1-q<B.length:=by omega
    obtain⟨x,hx⟩:=af (A[q-a]?.getD 0);obtain⟨y,hy⟩:=af (B[dM-1-q]?.getD 0);have HXe:=qH<|hx;have HYe:=qH<|hy;have OX:Hid (x∈A):=by show x∈A;rw[<-hx];exact eR E_
    have OY:Hid (y∈B):=by show y∈B;rw[<-hy];exact eR Yx
    have OH:=HN.out;have c0:wr.cell? (aq blk (off+q))=some (Iq x):=by rw[(hrow.2 q (by omega)).1,show q=a+(q-a)by omega,HAt _ E_,hx]
    have c1:wr.cell? (aq blk (off+u))=some (Iq y):=by rw[(hrow.2 u (by omega)).1,HU.out,HBt _ Yx,hy]
    have ii:Hid (Cw g (#[Iq y,Iq x]++lb) wr.drew fun e W'=>e=Rw (Iq (cf y x))/\Bt wr W'):=by refine(VC wr.drew (fx (grown_trans LM fd)) y (kZ y OY) x (yA x OX)).mono ?_;rintro e w2 ⟨rfl,b2⟩;exact⟨rfl,(ag wr.heap.size wr).drew.trans b2⟩
    obtain⟨z,hz⟩:=af (cf y x);have HZ:=qH<|hz;rw[hz]at ii;clear hq hx hy OH hz hu E_ Yx;go_wp2_with fail;go_cut[171]from 158 to 171 (fun v wx=>v=.bool (!decide (z<0))/\Bt wr wx);case first=>
     go_region_with(refine ii.mono ?_;rintro e wq ⟨rfl,bq⟩);all_goals(go_wp2_with fail)
     all_goals go_meet
     all_goals exact⟨rfl,bq⟩
    case rest=>
     obtain⟨rfl,bx⟩:=hcut;have ij:=qH<|hrow.below bx;have oJ:=qH<|grown_trans fd (grown_below bx);clear hrow fd c0 c1 ii;by_cases dJ:z<0
     ·have Ty:Hid (q<r0->R (B[dM-1-q]?.getD 0) (A[q-a]?.getD 0)):=by intro _;rw[HXe.out,HYe.out];exact HO.lt y (kZ y OY) x (yA x OX) (by rw[HZ.out];exact dJ)
      have hd:(!decide (z<0))=false:=by simp[dJ]
      rw[hd];go_wp2;go_roundw;case rel=>exact⟨s,q,rfl,rfl,_w,by omega,by omega,ri,Ty,ij,oJ⟩
      case measure=>simp[intOf];omega
     ·have OG:Hid (s0<q+1->R (A[q+1-1-a]?.getD 0) (B[dM-(q+1)]?.getD 0)):=by intro _;rw[show q+1-1-a=q-a by omega,show dM-(q+1)=dM-1-q by omega,HXe.out,HYe.out];exact HO.ge x (yA x OX) y (kZ y OY) (HT x OX y OY) (by rw[HZ.out];exact dJ)
      have hd:(!decide (z<0))=true:=by simp[dJ]
      rw[hd];go_wp2;go_roundw;case rel=>exact⟨q+1,r,by go_num,rfl,by omega,by omega,ux,OG,KA,ij,oJ⟩
      case measure=>simp[intOf];omega
   ·have aR:¬(s:Int)<(r:Int):=by omega
    obtain rfl:s=r:=by omega
    obtain⟨e,he⟩:∃e:Nat,dM+m-s=e:=⟨_,rfl⟩;have Wo:(n':Int)-(s:Int)=(e:Int):=by have:=HP'.out;omega
    have Z_:e+s<=dM+m:=by omega
    have Yp:dM+m<=e+s:=by omega
    obtain⟨A1,hA1⟩:=af (A.take (s-a));obtain⟨A2,LX⟩:=af (A.drop (s-a));obtain⟨B1,oi⟩:=af (B.take (dM-s));obtain⟨B2,sS⟩:=af (B.drop (dM-s));have LA1:Hid (A1.length=s-a):=by show _=_;rw[<-hA1,bU];omega
    have ZN:Hid (A2.length=m-s):=by show _=_;rw[<-LX,dL];omega
    have ZO:Hid (B1.length=dM-s):=by show _=_;rw[<-oi,bU];omega
    have LB2:Hid (B2.length=b-e):=by show _=_;rw[<-sS,dL];omega
    have EA:Hid (A=A1++A2):=by show _=_;rw[<-hA1,<-LX,gy]
    have EB:Hid (B=B1++B2):=by show _=_;rw[<-oi,<-sS,gy]
    have X1:Hid (∀x∈A1,∀y∈B2,R x y):=by
     show∀x∈A1,∀y∈B2,R x y;rw[<-hA1,<-sS];refine Wb HO Vy VA yA kZ _ _ (by omega) fun h0 h1=>?_;have hss:s0<s:=by rcases HD.out with⟨d1,d2,d3⟩|⟨d1,d2⟩<;>omega
     have:=ri hss;rwa[show s-1-a=s-a-1 by omega]at this
    have X2:Hid (∀x∈B1,∀y∈A2,R x y):=by
     show∀x∈B1,∀y∈A2,R x y;rw[<-oi,<-LX];refine Wb HO VA Vy kZ yA _ _ (by omega) fun h0 h1=>?_;have hss:s<r0:=by rcases HD.out with⟨d1,d2,d3⟩|⟨d1,d2⟩<;>omega
     have:=KA hss;rwa[show dM-1-s=dM-s-1 by omega]at this
    clear hA1 LX oi sS ri KA he HAt HBt VC HD;have PA:Hid (A1.Pairwise R/\A2.Pairwise R/\B1.Pairwise R/\B2.Pairwise R):=by have h1:=Vy.out;rw[EA.out]at h1;have h2:=VA.out;rw[EB.out]at h2;exact⟨(ka.1 h1).1,(ka.1 h1).2.1,(ka.1 h2).1,(ka.1 h2).2.1⟩
    have MA:Hid ((∀x∈A1,x∈A)/\(∀x∈A2,x∈A)/\(∀x∈B1,x∈B)/\(∀x∈B2,x∈B)):=by refine⟨?_,?_,?_,?_⟩<;>intro x hx<;>first|(rw[EA.out];exact lX.2 (Or.inl hx))|(rw[EA.out];exact lX.2 (Or.inr hx))|(rw[EB.out];exact lX.2 (Or.inl hx))|(rw[EB.out];exact lX.2 (Or.inr hx))
    have ZG:Hid (aN wr blk off (P++A1++A2++B1++(B2++S))):=by have:=hrow.out;rw[EA.out,EB.out]at this;show aN _ _ _ _;simpa[bY]using this
    have ZA:Hid (P.length+A1.length+A2.length+B1.length+B2.length+S.length=n):=by have:=HN.out;rw[EA.out,EB.out]at this;show _=_;simp only[aI]at this;omega
    have ii:Hid (s<m->s<dM->Cw 290 #[.slice (some (aq blk off)) n cap,Iq s,Iq m,Iq e,.func (.func g) #[] lb] wr fun e w'=>e=Rw (.tuple #[])/\aN w' blk off (P++A1++B1++(A2++B2++S))/\w.grownBy w' (some blk)):=by
     intro h1 h2;have:=LA1.out;have:=ZN.out;have:=ZO.out;have:=HA.out;have:=ZA.out;have e0:(P++A1++A2++B1++(B2++S)).length=n:=by simp only[aI];omega
     have e1:(P++A1).length=s:=by simp only[aI];omega
     have e2:(P++A1).length+A2.length=m:=by simp only[aI];omega
     have e3:(P++A1).length+A2.length+B1.length=e:=by simp only[aI];omega
     have c:=F5 (P++A1) A2 B1 (B2++S) blk off cap (.func (.func g) #[] lb) wr ZG (by omega) (by omega) (by omega);rw[e3,e2,e1,e0]at c;refine c.mono ?_;rintro ex w' ⟨rfl,r1,g1⟩;exact⟨rfl,by simpa[bY]using r1,grown_trans fd g1⟩
    have HC2:Hid (∀w2,aN w2 blk off (P++A1++B1++(A2++B2++S))->w.grownBy w2 (some blk)->a<s->s<dM->Cw 289 #[.slice (some (aq blk off)) n cap,Iq a,Iq s,Iq dM,.func (.func g) #[] lb] w2 fun e w'=>e=Rw (.tuple #[])/\(∃M1:List Int,M1.Perm (A1++B1)/\M1.Pairwise R/\aN w' blk off (P++M1++(A2++B2++S)))/\w.grownBy w' (some blk)):=by intro w2 hr2 lz h1 h2;have:=LA1.out;have:=ZN.out;have:=ZO.out;have:=LB2.out;have:=HA.out;have:=ZA.out;refine(HI P A1 B1 (A2++B2++S) w2 n a s dM (by omega) (grown_trans LM lz) hr2 (fun x hx=>yA x (MA.1 x hx)) (fun x hx=>kZ x (MA.2.2.1 x hx)) PA.1 PA.2.2.1 (fun x hx y hy=>HT x (MA.1 x hx) y (MA.2.2.1 y hy)) (by omega) (by omega) (by simp only[aI];omega) aO HA (by omega) (by omega)).mono ?_;rintro ex w' ⟨rfl,m1,g1⟩;exact⟨rfl,m1,grown_trans lz g1⟩
    have HC3:Hid (∀M1:List Int,M1.Perm (A1++B1)->∀w2,aN w2 blk off (P++M1++(A2++B2++S))->w.grownBy w2 (some blk)->s<m->e<b->Cw 289 #[.slice (some (aq blk off)) n cap,Iq dM,Iq e,Iq b,.func (.func g) #[] lb] w2 fun e w'=>e=Rw (.tuple #[])/\(∃M2:List Int,M2.Perm (A2++B2)/\M2.Pairwise R/\aN w' blk off (P++M1++M2++S))/\w.grownBy w' (some blk)):=by
     intro M1 hM1 w2 hr2 lz h1 h2;have:=LA1.out;have:=ZN.out;have:=ZO.out;have:=LB2.out;have:=HA.out;have:=ZA.out;have hl:=hM1.length_eq;rw[aI]at hl;have Hx:aN w2 blk off ((P++M1)++A2++B2++S):=by simpa[bY]using hr2
     refine(HI (P++M1) A2 B2 S w2 n dM e b (by omega) (grown_trans LM lz) Hx (fun x hx=>yA x (MA.2.1 x hx)) (fun x hx=>kZ x (MA.2.2.2 x hx)) PA.2.1 PA.2.2.2 (fun x hx y hy=>HT x (MA.2.1 x hx) y (MA.2.2.2 y hy)) (by omega) (by omega) (by simp only[aI];omega) aO (by simp only[aI];omega) (by simp only[aI];omega) (by simp only[aI];omega)).mono ?_;rintro ex w' ⟨rfl,m1,g1⟩;exact⟨rfl,m1,grown_trans lz g1⟩
    have HEnd:Hid (∀M1 M2:List Int,∀w',M1.Perm (A1++B1)->M1.Pairwise R->M2.Perm (A2++B2)->M2.Pairwise R->aN w' blk off (P++M1++M2++S)->w.grownBy w' (some blk)->tz w w' blk off R P A B S):=by
     intro M1 M2 w' h1 p1 h2 p2 hr hg;refine⟨⟨M1++M2,?_,?_,by simpa[bY]using hr⟩,hg⟩;·rw[EA.out,EB.out];exact Kj _ _ _ _ _ _ h1 h2
     ·have h3:=Vy.out;rw[EA.out]at h3;have h4:=VA.out;rw[EB.out]at h4;exact Ki A1 A2 B1 B2 M1 M2 h1 h2 p1 p2 h3 h4 X1 X2
    have ON:Hid (m<=s\/dM<=s->aN wr blk off (P++A1++B1++(A2++B2++S))):=by
     intro hc;have:=ZN.out;have:=ZO.out;have h0:=ZG.out;rcases hc with hc|hc;·rw[pH (show A2.length=0 by omega)]at h0⊢;simpa[bY]using h0
     ·rw[pH (show B1.length=0 by omega)]at h0⊢;simpa[bY]using h0
    have zf6:Hid (s<=a\/dM<=s->(A1++B1).Pairwise R):=by
     intro hc;have:=LA1.out;have:=ZO.out;rcases hc with hc|hc;·rw[pH (show A1.length=0 by omega)];exact PA.2.2.1
     ·rw[pH (show B1.length=0 by omega),ik];exact PA.1
    have zf7:Hid (m<=s\/b<=e->(A2++B2).Pairwise R):=by
     intro hc;have:=ZN.out;have:=LB2.out;rcases hc with hc|hc;·rw[pH (show A2.length=0 by omega)];exact PA.2.2.2
     ·rw[pH (show B2.length=0 by omega),ik];exact PA.2.1
    have Heb:e<=b:=by omega
    clear hrow ZG EA EB X1 X2 PA MA ZA LA1 ZN ZO LB2 HI Vy VA yA kZ HT HO HN;have Xm:Hid (∀w2,aN w2 blk off (P++A1++B1++(A2++B2++S))->(s<=a\/dM<=s)->∃M1:List Int,M1.Perm (A1++B1)/\M1.Pairwise R/\aN w2 blk off (P++M1++(A2++B2++S))):=fun w2 h hc=>⟨A1++B1,QZ _,zf6 hc,by grind⟩;have Gz:Hid (∀M1 w3,aN w3 blk off (P++M1++(A2++B2++S))->(m<=s\/b<=e)->∃M2:List Int,M2.Perm (A2++B2)/\M2.Pairwise R/\aN w3 blk off (P++M1++M2++S)):=fun M1 w3 h hc=>⟨A2++B2,QZ _,zf7 hc,by simpa[bY]using h⟩;by_cases i1:(s:Int)<(m:Int)<;>by_cases i2:(m:Int)<(e:Int)<;>by_cases i3:(a:Int)<(s:Int)<;>by_cases i4:(s:Int)<(dM:Int)<;>by_cases i5:(dM:Int)<(e:Int)<;>by_cases i6:(e:Int)<(b:Int)<;>try(exfalso;omega)
    all_goals
     first
      |(have h0:=ii (by omega) (by omega);go_wp2_with fail;refine ai h0 ?_;clear h0;rintro ex w2 ⟨rfl,r2,g2⟩)
      |(have r2:=ON (by omega);have g2:=fd.out)
     have HR2:=qH<|r2;have qT:=qH<|g2;clear r2 g2 ii ON;first
      |(have h0:=HC2 _ HR2 qT (by omega) (by omega);go_wp2_with fail;refine ai h0 ?_;clear h0;rintro ex w3 ⟨rfl,⟨M1,q1,q2,r3⟩,g3⟩)
      |(obtain⟨M1,q1,q2,r3⟩:=Xm _ HR2 (by omega);have g3:=qT.out)
     have HQ1:=qH<|q1;have HQ2:=qH<|q2;have HR3:=qH<|r3;have Gy:=qH<|g3;clear q1 q2 r3 g3 HR2 qT HC2 Xm;first
      |(have h0:=HC3 M1 HQ1 _ HR3 Gy (by omega) (by omega);go_wp2_with fail;refine ai h0 ?_;clear h0;rintro ex w4 ⟨rfl,⟨M2,q3,q4,r4⟩,g4⟩)
      |(obtain⟨M2,q3,q4,r4⟩:=Gz M1 _ HR3 (by omega);have g4:=Gy.out)
     have HZ:=qH<|HEnd M1 M2 _ HQ1 HQ2 q3 q4 r4 g4;clear q3 q4 r4 g4 HEnd HC3 Gz;go_wp2;go_end0;exact⟨rfl,HZ⟩
theorem IG(g:Nat)  lb  (eg:∀args w,(callFunc g args).run prog w=.ok (.enter g args) w)  cf   D   R  (hO:Ord cf D R)  w0   blk off cap  (hcmp:AE g lb cf D w0 blk):∀N,VV g lb cf D R w0 blk off cap N
 |0=>fun P A B S w n a m b hN hw0 h hAD hBD hAP hBP hlt Z3 oI hn aO ha hm hb=>by omega
 |N+1=>fun P A B S w n a m b hN hw0 h hAD hBD hAP hBP hlt Z3 oI hn aO ha hm hb=>by
  by_cases h1:A.length=1;·obtain⟨x,rfl⟩:=ID h1;have c:=Qz g lb eg cf D R hO w0 P x B S blk off cap hcmp w hw0 h (hAD x (by simp)) hBD hBP (fun y hy=>hlt x (by simp) y hy) oI (by omega);rw[hn,ha,show a+1=m by omega,show m+B.length=b by omega]at c;refine c.mono ?_;rintro ex w' ⟨rfl,⟨B1,B2,rfl,x1,x2,r⟩,g1⟩;refine⟨rfl,⟨B1++[x]++B2,?_,?_,by grind⟩,g1⟩;all_goals grind
  ·by_cases h2:B.length=1;·obtain⟨y,rfl⟩:=ID h2;have c:=LA g lb eg cf D R hO w0 P A y S blk off cap hcmp w hw0 h (hBD y (by simp)) hAD hAP (fun x hx=>hlt x hx y (by simp)) (by omega) (by omega);rw[hn,show P.length+A.length+1=b by omega,hm,ha]at c;refine c.mono ?_;rintro ex w' ⟨rfl,⟨A1,A2,rfl,x1,x2,r⟩,g1⟩;refine⟨rfl,⟨A1++[y]++A2,?_,?_,by grind⟩,g1⟩;all_goals grind
   ·exact Qy g lb eg cf D R hO w0 blk off cap hcmp N (IG g lb eg cf D R hO w0 blk off cap hcmp N) P A B S w n a m b hN hw0 h hAD hBD hAP hBP hlt (by omega) (by omega) hn aO ha hm hb
