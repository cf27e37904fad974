import Derived.Test.YtiaimhjebnobnaaGreatDoorQ00
import Derived.Deep.RegionWith
import Derived.Deep.CutRange
import Derived.Test.YtiaimhjebnobnaaGreatDoorQ03
import Derived.Test.YtiaimhjebnobnaaGreatDoorQ02
set_option linter.all false
set_option maxRecDepth 100000
set_option maxHeartbeats 16000000
namespace Go.Proofs.YtiaimhjebnobnaaGreatDoor
open Go.RowKit Go.Proofs.Tryz
def BO(g:Nat)(lb:Array Value)(cf:Int->Int->Int)(D:List Int)(w0:World)(blk:Nat):Prop:=
 ∀W,w0.grownBy W (some blk)->∀x∈D,∀y∈D,Cw g (#[Iq x,Iq y]++lb) W fun e W'=>e=Rw (Iq (cf x y))/\Bt W W'
structure Ord(cf:Int->Int->Int)(D:List Int)(R:Int->Int->Prop):Prop where
 lt:∀x∈D,∀y∈D,cf x y<0->R x y
 ge:∀x∈D,∀y∈D,x<y->¬cf y x<0->R x y
 trans:∀x∈D,∀y∈D,∀z∈D,R x y->R y z->R x z
 bd:∀x∈D,∀y∈D,-1<=cf x y/\cf x y<=1
theorem lH{R}{B:List Int}(h:B.Pairwise R){i j}(IY:i<j)(hj:j<B.length):R (B[i]?.getD 0) (B[j]?.getD 0):=by rw[eR hj,eR (by omega)];exact Rq.1 h i j (by omega) hj IY
theorem gu{B:List Int}{i}(hi:i<B.length):B[i]?.getD 0∈B:=by grind
theorem kj{B:List Int}{c}{y}(h:y∈B.take c):∃k,k<c/\k<B.length/\B[k]?.getD 0=y:=by obtain⟨k,hk,e⟩:=sY.1 h;rw[cX]at hk;refine⟨k,by omega,by omega,?_⟩;grind
theorem mY{B:List Int}{c}{y}(h:y∈B.drop c):∃k,c<=k/\k<B.length/\B[k]?.getD 0=y:=by obtain⟨k,hk,e⟩:=sY.1 h;rw[dq]at hk;refine⟨c+k,by omega,by omega,?_⟩;grind
theorem q_(X:List Int)  p q   Y  :(X++[p]++[q]++Y)[X.length]?.getD 0=p/\(X++[p]++[q]++Y)[X.length+1]?.getD 0=q:=by grind
theorem wL  X   p q   Y  :swp (X++[p]++[q]++Y) X.length (X.length+1)=X++[q]++[p]++Y:=by have:=yY X [p] [] [q] Y rfl;simp only[lZ,e_,iA,w_,bM]at this;exact this
theorem lf(B:List Int)  e  (h:e<B.length):B.take (e+1)=B.take e++[B[e]?.getD 0]/\B.drop e=[B[e]?.getD 0]++B.drop (e+1):=by simp_all
theorem Q5(g:Nat)(lb:Array Value)(eg:∀args w,(callFunc g args).run prog w=.ok (.enter g args) w)(cf:Int->Int->Int)(D:List Int)(R:Int->Int->Prop)(hO:Ord cf D R)(w0:World)(P:List Int)(x:Int)(B S:List Int)(blk off cap:Nat)(hcmp:BO g lb cf D w0 blk)(w:World)(hw0:w0.grownBy w (some blk))(h:bp w blk off (P++[x]++B++S))
 (hx:x∈D) (hB:∀y∈B,y∈D) (hBp:B.Pairwise R) (hT:∀y∈B,x<y) (su:0<B.length) (bY:(P++[x]++B++S).length<=1099511627776):
 Cw 267 #[.slice (some (az blk off)) (P++[x]++B++S).length cap,Iq P.length,Iq ((P.length+1:Nat):Int),Iq ((P.length+1+B.length:Nat):Int),.func (.func g) #[] lb] w fun e w'=>e=Rw (.tuple #[])/\(∃B1 B2,B=B1++B2/\(∀y∈B1,R y x)/\(∀y∈B2,R x y)/\bp w' blk off (P++B1++[x]++B2++S))/\w.grownBy w' (some blk):=by
 have HR:=qH<|h;have HO:=qH<|hO;have Mz:=qH<|hw0;have Wa:=qH<|hcmp;have Sk:=qH<|hx;have iM:=qH<|hB;have V7:=qH<|hBp;have HTB:=qH<|hT;obtain⟨n,hn⟩:=ag ((P++[x]++B++S).length);obtain⟨a,ha⟩:=ag P.length;obtain⟨b,hb⟩:=ag (P.length+1+B.length);obtain⟨m,hm⟩:=ag (P.length+1);have Ft:b<=n:=by rw[<-hb,<-hn];simp only[bm,e_,iA];omega
 have hma:(m:Int)-(a:Int)=1:=by omega
 have zpd:b<=m+B.length:=by omega
 have zpe:m+B.length<=b:=by omega
 have zil:m<=a+1:=by omega
 have zim:a+1<=m:=by omega
 have HN:=qH<|hn;have HA:=qH<|ha;have HX:Hid ((P++[x]++B++S)[a]?.getD 0=x):=by show _=_;rw[<-ha];simp[dt]
 have Nb:Hid (∀t,t<B.length->(P++[x]++B++S)[m+t]?.getD 0=B[t]?.getD 0):=by intro t ht;rw[jw,if_pos (by grind),jw,if_neg (by grind)];congr 2;simp only[bm,e_,iA];omega
 rw[hn]at bY⊢;rw[hb,hm,ha];clear h hO hw0 hcmp hx hB hBp hT hn ha hb hm;go_enter func267,ntmps267;go_wp2;go_loopw[10,11] (fun i j wr=>∃s t:Nat,i=Iq s/\j=Iq t/\m<=s/\s<=t/\t<=b/\Hid (∀k,m+k<s->R (B[k]?.getD 0) x)/\Hid (∀k,t<=m+k->k<B.length->R x (B[k]?.getD 0))/\Hid (bp wr blk off (P++[x]++B++S))/\Hid (w.grownBy wr (some blk))) (fun i j _=>(intOf j).toNat-(intOf i).toNat);case atStart=>exact⟨m,b,rfl,rfl,ai _,by omega,ai _,fun k hk=>by omega,fun k h1 h2=>by omega,HR,ee _ _⟩
 case round=>
  obtain⟨s,t,rfl,rfl,xh,hst,htb,pE,O6,hrow,fY⟩:=hrel;by_cases hlt:s<t
  ·have aN:(s:Int)<(t:Int):=by omega
   obtain⟨q,hq⟩:∃q:Nat,(s+t)/2=q:=⟨_,rfl⟩;have hqi:((s:Int)+(t:Int))/2=(q:Int):=by omega
   have tF:s<=q:=by omega
   have vq:q<t:=by omega
   have hqn:(q:Int)<(n:Int):=by omega
   have han:(a:Int)<(n:Int):=by omega
   obtain⟨k,hk⟩:∃k,q=m+k:=⟨q-m,by omega⟩;have Za:k<B.length:=by omega
   obtain⟨y,hy⟩:=ag (B[k]?.getD 0);have HY:=qH<|hy;have HK:=qH<|hk;have Pv:Hid (y∈B):=by show y∈B;rw[<-hy];exact gu Za
   have Pa:=HN.out;have c0:wr.cell? (az blk (off+q))=some (Iq y):=by rw[(hrow.2 q (by omega)).1,hk,Nb k Za,hy]
   have c1:wr.cell? (az blk (off+a))=some (Iq x):=by rw[(hrow.2 a (by omega)).1,HX.out]
   have kx:Hid (Cw g (#[Iq y,Iq x]++lb) wr.drew fun e W'=>e=Rw (Iq (cf y x))/\Bt wr W'):=by refine(Wa wr.drew (gK (grown_trans Mz fY)) y (iM y Pv) x Sk).mono ?_;rintro e w2 ⟨rfl,b2⟩;exact⟨rfl,(aj wr.heap.size wr).drew.trans b2⟩
   obtain⟨z,hz⟩:=ag (cf y x);have HZ:=qH<|hz;rw[hz]at kx;clear hq hk hy Pa hz;go_wp2_with fail;go_cut[50]from 40 to 50 (fun v wx=>v=.bool (decide (z<0))/\Bt wr wx);case first=>
    go_region_with(refine kx.mono ?_;rintro e wq ⟨rfl,bq⟩);all_goals(go_wp2_with fail)
    all_goals go_meet
    all_goals simp_all
   case rest=>
    obtain⟨rfl,bx⟩:=hcut;have jj:=qH<|hrow.below bx;have pV:=qH<|grown_trans fY (grown_below bx);clear hrow fY c0 c1 kx;by_cases eG:z<0
    ·have O':Hid (∀k',m+k'<q+1->R (B[k']?.getD 0) x):=by
      intro k' hk';have MX:=HO.lt y (iM y Pv) x Sk (by rw[HZ.out];exact eG);by_cases e:k'=k;·subst e;rw[HY.out];exact MX
      ·have ke:k'<k:=by have:=HK.out;omega
       have h1:=lH V7 ke Za;rw[HY.out]at h1;exact HO.trans _ (iM _ (gu (by omega))) y (iM y Pv) x Sk h1 MX
     go_wp2;go_roundw;case rel=>exact⟨q+1,t,by go_num,rfl,by omega,by omega,htb,O',O6,jj,pV⟩
     case measure=>simp[intOf];omega
    ·have Us:Hid (∀k',q<=m+k'->k'<B.length->R x (B[k']?.getD 0)):=by
      intro k' hk' dj;have Ll:=HO.ge x Sk y (iM y Pv) (HTB y Pv) (by rw[HZ.out];exact eG);by_cases e:k'=k;·subst e;rw[HY.out];exact Ll
      ·have ke:k<k':=by have:=HK.out;omega
       have h1:=lH V7 ke dj;rw[HY.out]at h1;exact HO.trans x Sk y (iM y Pv) _ (iM _ (gu dj)) Ll h1
     go_wp2;go_roundw;case rel=>exact⟨s,q,rfl,rfl,xh,by omega,by omega,pE,Us,jj,pV⟩
     case measure=>simp[intOf];omega
  ·have aN:¬(s:Int)<(t:Int):=by omega
   obtain rfl:s=t:=by omega
   obtain⟨c,hc⟩:∃c,s=m+c:=⟨s-m,by omega⟩;have _m:=qH<|hc;have hc1:s<=m+c:=by omega
   have Uj:m+c<=s:=by omega
   have hcB:c<=B.length:=by omega
   have HB1:Hid (∀y∈B.take c,R y x):=by intro y hy;obtain⟨k,hk,_,e⟩:=kj hy;rw[<-e];exact pE k (by omega)
   have HB2:Hid (∀y∈B.drop c,R x y):=by intro y hy;obtain⟨k,hk,dj,e⟩:=mY hy;rw[<-e];exact O6 k (by omega) dj
   clear hc;go_wp2;go_loopw[13] (fun i wr=>∃e u:Nat,a+e<=u/\u<=a+e/\i=Iq u/\e<=c/\Hid (bp wr blk off (P++B.take e++[x]++B.drop e++S))/\Hid (w.grownBy wr (some blk))) (fun i _=>s-(intOf i).toNat);case atStart=>exact⟨0,a,by omega,by omega,rfl,aZ _,by simp_all,fY⟩
   case round=>
    obtain⟨e,u,Gw,SM,rfl,Uo,kh,hgr2⟩:=hrel;by_cases mM:e<c
    ·have xG:(u:Int)<(s:Int)-1:=by omega
     have heB:e<B.length:=by omega
     obtain⟨y,hy⟩:=ag (B[e]?.getD 0);obtain⟨Pp,UF⟩:=lf B e heB;rw[hy]at Pp UF;obtain⟨v,hv⟩:=ag (u+1);have hvi:(u:Int)+1=(v:Int):=by omega
     have huv:u<v:=by omega
     have Bz:(P++B.take e).length=u:=by have:=HA.out;rw[bm,cX];omega
     have HL2:(P++B.take e++[x]++B.drop e++S).length=n:=by have:=HN.out;simp only[bm,cX,dq,e_,iA]at*;omega
     have hd:P++B.take e++[x]++B.drop e++S=(P++B.take e)++[x]++[y]++(B.drop (e+1)++S):=by rw[UF];simp[dt]
     have hr1:=kh.out;rw[hd]at hr1 HL2;have hdx:((P++B.take e)++[x]++[y]++(B.drop (e+1)++S))[u]?.getD 0=x:=by rw[<-Bz];exact(q_ _ _ _ _).1
     have hdy:((P++B.take e)++[x]++[y]++(B.drop (e+1)++S))[v]?.getD 0=y:=by rw[<-hv,<-Bz];exact(q_ _ _ _ _).2
     have c0:wr.cell? (az blk (off+u))=some (Iq x):=by rw[(hr1.2 u (by omega)).1,hdx]
     have f0:=(hr1.2 u (by omega)).2;have c1:wr.cell? (az blk (off+v))=some (Iq y):=by rw[(hr1.2 v (by omega)).1,hdy]
     have f1:=(hr1.2 v (by omega)).2;have FH:Hid (bp ((wr.setCell (az blk (off+u)) (Iq y)).setCell (az blk (off+v)) (Iq x)) blk off (P++B.take (e+1)++[x]++B.drop (e+1)++S)):=by have:=nH hr1 u v (by omega) (by omega);rw[hdx,hdy]at this;have oi:=wL (P++B.take e) x y (B.drop (e+1)++S);rw[Bz,hv]at oi;rw[oi]at this;show bp _ _ _ _;rw[Pp];simpa[dt]using this
     have HG:Hid (w.grownBy ((wr.setCell (az blk (off+u)) (Iq y)).setCell (az blk (off+v)) (Iq x)) (some blk)):=
      grown_trans hgr2 (grown_trans (fX _ _ _ _) (fX _ _ _ _));have hun:(u:Int)<(n:Int):=by omega
     have hvn:(v:Int)<(n:Int):=by omega
     have hwv:IntKind.i64.wrap (v:Int)=(v:Int):=IntWalk.i64_in _ ⟨by omega,by omega⟩;clear hr1 hd hdx hdy Pp UF hy HL2 Bz hv kh hgr2;go_wp2;go_big_region;go_wp2;go_roundw;case rel=>exact⟨e+1,v,by omega,by omega,rfl,by omega,FH,gK HG⟩
     case measure=>simp[intOf];omega
    ·have xG:¬(u:Int)<(s:Int)-1:=by omega
     obtain rfl:e=c:=by omega
     go_wp2;try simp only[Exit.inBlock,Exit.then]
     refine bodyPost_ret (results_none rfl _ _ _) rfl ?_;exact⟨rfl,⟨B.take e,B.drop e,(gU _ _).symm,HB1,HB2,by simpa[dt]using kh.out⟩,hgr2⟩
theorem EL  d   i j  (hi:i<d.length) (hj:j<d.length):swp d i j=swp d j i:=by grind[yK,po,Ib]
theorem Mq(g:Nat)(lb:Array Value)(eg:∀args w,(callFunc g args).run prog w=.ok (.enter g args) w)(cf:Int->Int->Int)(D:List Int)(R:Int->Int->Prop)(hO:Ord cf D R)(w0:World)(P A:List Int)(y:Int)(S:List Int)(blk off cap:Nat)(hcmp:BO g lb cf D w0 blk)(w:World)(hw0:w0.grownBy w (some blk))(h:bp w blk off (P++A++[y]++S))
 (hy:y∈D) (hA:∀x∈A,x∈D) (hAp:A.Pairwise R) (hT:∀x∈A,x<y) (_X:2<=A.length) (bY:(P++A++[y]++S).length<=1099511627776):
 Cw 267 #[.slice (some (az blk off)) (P++A++[y]++S).length cap,Iq P.length,Iq ((P.length+A.length:Nat):Int),Iq ((P.length+A.length+1:Nat):Int),.func (.func g) #[] lb] w fun e w'=>e=Rw (.tuple #[])/\(∃A1 A2,A=A1++A2/\(∀x∈A1,R x y)/\(∀x∈A2,R y x)/\bp w' blk off (P++A1++[y]++A2++S))/\w.grownBy w' (some blk):=by
 have HR:=qH<|h;have HO:=qH<|hO;have Mz:=qH<|hw0;have Wa:=qH<|hcmp;have HYD:=qH<|hy;have zt:=qH<|hA;have V5:=qH<|hAp;have HTA:=qH<|hT;have qT:prog.follows .mixedOrders=true:=by kernel_rfl
 obtain⟨n,hn⟩:=ag ((P++A++[y]++S).length);obtain⟨a,ha⟩:=ag P.length;obtain⟨b,hb⟩:=ag (P.length+A.length+1);obtain⟨m,hm⟩:=ag (P.length+A.length);have Ft:b<=n:=by rw[<-hb,<-hn];simp only[bm,e_,iA];omega
 have hma:¬(m:Int)-(a:Int)=1:=by omega
 have hbm:(b:Int)-(m:Int)=1:=by omega
 have zin:((m:Int)-(a:Int)==1)=false:=by simpa using hma
 have zhG:((b:Int)-(m:Int)==1)=true:=by simpa using hbm
 have zil:m<=a+A.length:=by omega
 have zim:a+A.length<=m:=by omega
 have Ux:m<b:=by omega
 have HN:=qH<|hn;have HA:=qH<|ha;have HX:Hid ((P++A++[y]++S)[m]?.getD 0=y):=by
  show _=_;have:(P++A).length=m:=by rw[bm];omega
  rw[<-this,dt (P++A),XI (ai _),Nat.sub_self];rfl
 have HAt:Hid (∀t,t<A.length->(P++A++[y]++S)[a+t]?.getD 0=A[t]?.getD 0):=by intro t ht;rw[jw,if_pos (by grind),jw,if_pos (by grind),jw,if_neg (by omega)];congr 2;omega
 rw[hn]at bY⊢;rw[hb,hm,ha];clear h hO hw0 hcmp hy hA hAp hT hn ha hb hm;go_enter func267,ntmps267;go_wp2;go_loopw[14,15] (fun i j wr=>∃s t:Nat,i=Iq s/\j=Iq t/\a<=s/\s<=t/\t<=m/\Hid (∀k,a+k<s->R (A[k]?.getD 0) y)/\Hid (∀k,t<=a+k->k<A.length->R y (A[k]?.getD 0))/\Hid (bp wr blk off (P++A++[y]++S))/\Hid (w.grownBy wr (some blk))) (fun i j _=>(intOf j).toNat-(intOf i).toNat);case atStart=>exact⟨a,m,rfl,rfl,ai _,by omega,ai _,fun k hk=>by omega,fun k h1 h2=>by omega,HR,ee _ _⟩
 case round=>
  obtain⟨s,t,rfl,rfl,xh,hst,htb,pE,O6,hrow,fY⟩:=hrel;by_cases hlt:s<t
  ·have aN:(s:Int)<(t:Int):=by omega
   obtain⟨q,hq⟩:∃q:Nat,(s+t)/2=q:=⟨_,rfl⟩;have hqi:((s:Int)+(t:Int))/2=(q:Int):=by omega
   have tF:s<=q:=by omega
   have vq:q<t:=by omega
   have hqn:(q:Int)<(n:Int):=by omega
   have Dn:(m:Int)<(n:Int):=by omega
   obtain⟨k,hk⟩:∃k,q=a+k:=⟨q-a,by omega⟩;have Gl:k<A.length:=by omega
   obtain⟨x,hx⟩:=ag (A[k]?.getD 0);have HY:=qH<|hx;have HK:=qH<|hk;have Pt:Hid (x∈A):=by show x∈A;rw[<-hx];exact gu Gl
   have Pa:=HN.out;have c0:wr.cell? (az blk (off+q))=some (Iq x):=by rw[(hrow.2 q (by omega)).1,hk,HAt k Gl,hx]
   have c1:wr.cell? (az blk (off+m))=some (Iq y):=by rw[(hrow.2 m (by omega)).1,HX.out]
   have kx:Hid (Cw g (#[Iq y,Iq x]++lb) wr.drew fun e W'=>e=Rw (Iq (cf y x))/\Bt wr W'):=by refine(Wa wr.drew (gK (grown_trans Mz fY)) y HYD x (zt x Pt)).mono ?_;rintro e w2 ⟨rfl,b2⟩;exact⟨rfl,(aj wr.heap.size wr).drew.trans b2⟩
   obtain⟨z,hz⟩:=ag (cf y x);have HZ:=qH<|hz;rw[hz]at kx;clear hq hk hx Pa hz;go_wp2_with fail;go_cut[103]from 92 to 103 (fun v wx=>v=.bool (!decide (z<0))/\Bt wr wx);case first=>
    go_region_with(refine kx.mono ?_;rintro e wq ⟨rfl,bq⟩);all_goals(go_wp2_with fail)
    all_goals go_meet
    all_goals simp_all
   case rest=>
    obtain⟨rfl,bx⟩:=hcut;have jj:=qH<|hrow.below bx;have pV:=qH<|grown_trans fY (grown_below bx);clear hrow fY c0 c1 kx;by_cases eG:z<0
    ·have Us:Hid (∀k',q<=a+k'->k'<A.length->R y (A[k']?.getD 0)):=by
      intro k' hk' dj;have MX:=HO.lt y HYD x (zt x Pt) (by rw[HZ.out];exact eG);by_cases e:k'=k;·subst e;rw[HY.out];exact MX
      ·have ke:k<k':=by have:=HK.out;omega
       have h1:=lH V5 ke dj;rw[HY.out]at h1;exact HO.trans y HYD x (zt x Pt) _ (zt _ (gu dj)) MX h1
     have hd:(!decide (z<0))=false:=by simp[eG]
     rw[hd];go_wp2;go_roundw;case rel=>grind
     case measure=>simp[intOf];omega
    ·have O':Hid (∀k',a+k'<q+1->R (A[k']?.getD 0) y):=by
      intro k' hk';have Ll:=HO.ge x (zt x Pt) y HYD (HTA x Pt) (by rw[HZ.out];exact eG);by_cases e:k'=k;·subst e;rw[HY.out];exact Ll
      ·have ke:k'<k:=by have:=HK.out;omega
       have h1:=lH V5 ke Gl;rw[HY.out]at h1;exact HO.trans _ (zt _ (gu (by omega))) x (zt x Pt) y HYD h1 Ll
     have hd:(!decide (z<0))=true:=by simp[eG]
     rw[hd];go_wp2;go_roundw;case rel=>exact⟨q+1,t,by go_num,rfl,by omega,by omega,htb,O',O6,jj,pV⟩
     case measure=>simp[intOf];omega
  ·have aN:¬(s:Int)<(t:Int):=by omega
   obtain rfl:s=t:=by omega
   obtain⟨c,hc⟩:∃c,s=a+c:=⟨s-a,by omega⟩;have hc1:s<=a+c:=by omega
   have Uj:a+c<=s:=by omega
   have hcA:c<=A.length:=by omega
   have M8:Hid (∀x∈A.take c,R x y):=by intro x hx;obtain⟨k,hk,_,e⟩:=kj hx;rw[<-e];exact pE k (by omega)
   have Mv:Hid (∀x∈A.drop c,R y x):=by intro x hx;obtain⟨k,hk,dj,e⟩:=mY hx;rw[<-e];exact O6 k (by omega) dj
   clear hc;go_wp2;go_loopw[17] (fun i wr=>∃e u:Nat,a+e<=u/\u<=a+e/\i=Iq u/\c<=e/\e<=A.length/\Hid (bp wr blk off (P++A.take e++[y]++A.drop e++S))/\Hid (w.grownBy wr (some blk))) (fun i _=>(intOf i).toNat);case atStart=>exact⟨A.length,m,by omega,by omega,rfl,by omega,ai _,by simp_all,fY⟩
   case round=>
    obtain⟨e1,u,Gw,SM,rfl,Uo,heA,kh,hgr2⟩:=hrel;by_cases mM:c<e1
    ·have xG:(s:Int)<(u:Int):=by omega
     obtain⟨e,rfl⟩:∃e,e1=e+1:=⟨e1-1,by omega⟩;have zhU:e<A.length:=by omega
     obtain⟨x,hx⟩:=ag (A[e]?.getD 0);obtain⟨Pp,UF⟩:=lf A e zhU;rw[hx]at Pp UF;obtain⟨v,hv⟩:∃v,v+1=u:=⟨u-1,by omega⟩;have hvi:(u:Int)-1=(v:Int):=by omega
     have huv:v<u:=by omega
     have Bz:(P++A.take e).length=v:=by have:=HA.out;rw[bm,cX];omega
     have HL2:(P++A.take (e+1)++[y]++A.drop (e+1)++S).length=n:=by have:=HN.out;simp only[bm,cX,dq,e_,iA]at*;omega
     have hd:P++A.take (e+1)++[y]++A.drop (e+1)++S=(P++A.take e)++[x]++[y]++(A.drop (e+1)++S):=by rw[Pp];simp[dt]
     have hr1:=kh.out;rw[hd]at hr1 HL2;have hdx:((P++A.take e)++[x]++[y]++(A.drop (e+1)++S))[v]?.getD 0=x:=by rw[<-Bz];exact(q_ _ _ _ _).1
     have hdy:((P++A.take e)++[x]++[y]++(A.drop (e+1)++S))[u]?.getD 0=y:=by rw[<-hv,<-Bz];exact(q_ _ _ _ _).2
     have c0:wr.cell? (az blk (off+v))=some (Iq x):=by rw[(hr1.2 v (by omega)).1,hdx]
     have f0:=(hr1.2 v (by omega)).2;have c1:wr.cell? (az blk (off+u))=some (Iq y):=by rw[(hr1.2 u (by omega)).1,hdy]
     have f1:=(hr1.2 u (by omega)).2;have FH:Hid (bp ((wr.setCell (az blk (off+u)) (Iq x)).setCell (az blk (off+v)) (Iq y)) blk off (P++A.take e++[y]++A.drop e++S)):=by have:=nH hr1 u v (by omega) (by omega);rw[hdx,hdy,EL _ _ _ (by omega) (by omega)]at this;have oi:=wL (P++A.take e) x y (A.drop (e+1)++S);rw[Bz,hv]at oi;rw[oi]at this;show bp _ _ _ _;rw[UF];simpa[dt]using this
     have HG:Hid (w.grownBy ((wr.setCell (az blk (off+u)) (Iq x)).setCell (az blk (off+v)) (Iq y)) (some blk)):=
      grown_trans hgr2 (grown_trans (fX _ _ _ _) (fX _ _ _ _));have hun:(u:Int)<(n:Int):=by omega
     have hvn:(v:Int)<(n:Int):=by omega
     have hwv:IntKind.i64.wrap (v:Int)=(v:Int):=IntWalk.i64_in _ ⟨by omega,by omega⟩;clear hr1 hd hdx hdy Pp UF hx HL2 Bz hv kh hgr2;go_wp2;go_big_region;go_wp2;go_roundw;case rel=>exact⟨e,v,by omega,by omega,rfl,by omega,by omega,FH,gK HG⟩
     case measure=>simp[intOf];omega
    ·have xG:¬(s:Int)<(u:Int):=by omega
     obtain rfl:e1=c:=by omega
     go_wp2;try simp only[Exit.inBlock,Exit.then]
     refine bodyPost_ret (results_none rfl _ _ _) rfl ?_;exact⟨rfl,⟨A.take e1,A.drop e1,(gU _ _).symm,M8,Mv,by simpa[dt]using kh.out⟩,hgr2⟩
theorem WG{cf}{D}{R}(hO:Ord cf D R){X Y:List Int}(hX:X.Pairwise R)(hY:Y.Pairwise R)(hXD:∀x∈X,x∈D)(hYD:∀y∈Y,y∈D)  i j  (hi:i<=X.length)
 (h:0<i->j<Y.length->R (X[i-1]?.getD 0) (Y[j]?.getD 0)):∀x∈X.take i,∀y∈Y.drop j,R x y:=by
 intro x hx y hy;obtain⟨k,hk,dj,rfl⟩:=kj hx;obtain⟨l,hl,WY,rfl⟩:=mY hy;have h0:=h (by omega) (by omega);have h1:R (X[k]?.getD 0) (Y[j]?.getD 0):=by
  by_cases e:k=i-1;·grind
  ·exact hO.trans _ (hXD _ (gu dj)) _ (hXD _ (gu (by omega))) _ (hYD _ (gu (by omega))) (lH hX (by omega) (by omega)) h0
 by_cases e:l=j;·grind
 ·exact hO.trans _ (hXD _ (gu dj)) _ (hYD _ (gu (by omega))) _ (hYD _ (gu WY)) h1 (lH hY (by omega) WY)
theorem KQ(A1 A2 B1 B2 M1 M2:List Int)(h1:M1.Perm (A1++B1))(h2:M2.Perm (A2++B2)):(M1++M2).Perm ((A1++A2)++(B1++B2)):=by grind
theorem KO{R}(A1 A2 B1 B2 M1 M2:List Int)(h1:M1.Perm (A1++B1))(h2:M2.Perm (A2++B2))(p1:M1.Pairwise R)(p2:M2.Pairwise R)(hA:(A1++A2).Pairwise R)(hB:(B1++B2).Pairwise R)(c1:∀x∈A1,∀y∈B2,R x y)(c2:∀x∈B1,∀y∈A2,R x y):(M1++M2).Pairwise R:=by grind
def ux(w w':World)(blk off:Nat)(R:Int->Int->Prop)(P A B S:List Int):Prop:=
 (∃M:List Int,M.Perm (A++B)/\M.Pairwise R/\bp w' blk off (P++M++S))/\w.grownBy w' (some blk)
def Wu(g:Nat)(lb:Array Value)(cf:Int->Int->Int)(D:List Int)(R:Int->Int->Prop)(w0:World)(blk off cap:Nat)(N:Nat):Prop:=
 ∀(P A B S:List Int) (w:World) (n a m b:Nat),A.length+B.length<=N->w0.grownBy w (some blk)->bp w blk off (P++A++B++S)->(∀x∈A,x∈D)->(∀x∈B,x∈D)->A.Pairwise R->B.Pairwise R->(∀x∈A,∀y∈B,x<y)->0<A.length->0<B.length->(P++A++B++S).length=n->n<=1099511627776->P.length=a->P.length+A.length=m->P.length+A.length+B.length=b->
  Cw 267 #[.slice (some (az blk off)) n cap,Iq a,Iq m,Iq b,.func (.func g) #[] lb] w fun e w'=>e=Rw (.tuple #[])/\ux w w' blk off R P A B S
theorem Jv{A:List Int}(h:A.length=1):∃x,A=[x]:=by
 match A,h with
 |[x],_=>exact⟨x,rfl⟩
theorem Q4(g:Nat)(lb:Array Value)(eg:∀args w,(callFunc g args).run prog w=.ok (.enter g args) w)(cf:Int->Int->Int)(D:List Int)(R:Int->Int->Prop)(hO:Ord cf D R)(w0:World)(blk off cap:Nat)(hcmp:BO g lb cf D w0 blk)(N:Nat)(IH:Wu g lb cf D R w0 blk off cap N)(P A B S:List Int)(w:World)(n a m b:Nat)(hN:A.length+B.length<=N+1)(hw0:w0.grownBy w (some blk))(h:bp w blk off (P++A++B++S))(hAD:∀x∈A,x∈D)(hBD:∀x∈B,x∈D)(hAP:A.Pairwise R)(hBP:B.Pairwise R)(hlt:∀x∈A,∀y∈B,x<y)(_X:2<=A.length)(su:2<=B.length)(hn:(P++A++B++S).length=n)(bY:n<=1099511627776)(ha:P.length=a)(hm:P.length+A.length=m)(hb:P.length+A.length+B.length=b):
 Cw 267 #[.slice (some (az blk off)) n cap,Iq a,Iq m,Iq b,.func (.func g) #[] lb] w fun e w'=>e=Rw (.tuple #[])/\ux w w' blk off R P A B S:=by
 have HR:=qH<|h;have HO:=qH<|hO;have Mz:=qH<|hw0;have Wa:=qH<|hcmp;have HI:=qH<|IH;have zt:=qH<|hAD;have iM:=qH<|hBD;have V5:=qH<|hAP;have V7:=qH<|hBP;have HT:=qH<|hlt;have qT:prog.follows .mixedOrders=true:=by kernel_rfl
 have Ft:b<=n:=by rw[<-hb,<-hn];simp only[bm];omega
 have zin:((m:Int)-(a:Int)==1)=false:=by
  have:¬(m:Int)-(a:Int)=1:=by omega
  simpa using this
 have zhG:((b:Int)-(m:Int)==1)=false:=by
  have:¬(b:Int)-(m:Int)=1:=by omega
  simpa using this
 have og:m<=a+A.length:=by omega
 have hm2:a+A.length<=m:=by omega
 have hb1:b<=m+B.length:=by omega
 have hb2:m+B.length<=b:=by omega
 have HN:=qH<|hn;have HA:=qH<|ha;have HAt:Hid (∀t,t<A.length->(P++A++B++S)[a+t]?.getD 0=A[t]?.getD 0):=by intro t ht;rw[jw,if_pos (by grind),jw,if_pos (by grind),jw,if_neg (by omega)];congr 2;omega
 have Nb:Hid (∀t,t<B.length->(P++A++B++S)[m+t]?.getD 0=B[t]?.getD 0):=by intro t ht;rw[jw,if_pos (by grind),jw,if_neg (by grind)];congr 2;simp only[bm];omega
 obtain⟨ff,zcQ⟩:∃ff:Nat,(a+b)/2=ff:=⟨_,rfl⟩;have zlI:((a:Int)+(b:Int))/2=(ff:Int):=by omega
 have zlG:a+b<=2*ff+1:=by omega
 have zlH:2*ff<=a+b:=by omega
 obtain⟨n',hn'⟩:∃n':Nat,ff+m=n':=⟨_,rfl⟩;have W9:(ff:Int)+(m:Int)=(n':Int):=by omega
 obtain⟨p,hp⟩:∃p:Nat,n'-1=p:=⟨_,rfl⟩;have hpi:(n':Int)-1=(p:Int):=by omega
 have HP':Hid (p+1=ff+m/\n'=ff+m):=⟨by omega,by omega⟩;have hnb:n'<=2199023255552:=by omega
 have lR:p<=2199023255552:=by omega
 obtain⟨sb,I7⟩:∃sb:Int,(n':Int)-(b:Int)=sb:=⟨_,rfl⟩;have hsbi:sb=(ff:Int)+(m:Int)-(b:Int):=by omega
 have X':=qH<|hsbi;have ziM:-2199023255552<=sb:=by omega
 have ziN:sb<=2199023255552:=by omega
 clear h hO hw0 hcmp IH hAD hBD hAP hBP hlt hn ha hm hb zcQ hn' hp hsbi;go_enter func267,ntmps267;go_upto_if 140 with fail;go_cut[20,21]from 140 to 146 (fun i j wx=>∃s0 r0:Nat,i=Iq s0/\j=Iq r0/\a<=s0/\s0<=r0/\r0<=m/\r0<=ff/\ff+m<=s0+b/\Hid ((ff+m<=s0+b/\s0+b<=ff+m/\ff<=r0)\/(s0=a/\r0=m))/\w=wx);case first=>
  by_cases hc:ff<m
  ·have hc':(ff:Int)<(m:Int):=by omega
   go_wp2_with fail;go_meet;exact⟨ff+m-b,ff,by grind,rfl,by omega,by omega,by omega,ai _,by omega,Or.inl ⟨by omega,by omega,ai _⟩,rfl⟩
  ·have hc':¬(ff:Int)<(m:Int):=by omega
   go_wp2_with fail;go_meet;exact⟨a,m,rfl,rfl,ai _,by omega,ai _,by omega,by omega,Or.inr ⟨rfl,rfl⟩,rfl⟩
 case rest=>
  obtain⟨s0,r0,rfl,rfl,has,FD,Gu,zl0,zqx,HD,rfl⟩:=hcut;clear I7 ziM ziN X';go_wp2;go_loopw[20,21] (fun i j wr=>∃s r:Nat,i=Iq s/\j=Iq r/\s0<=s/\s<=r/\r<=r0/\Hid (s0<s->R (A[s-1-a]?.getD 0) (B[ff-s]?.getD 0))/\Hid (r<r0->R (B[ff-1-r]?.getD 0) (A[r-a]?.getD 0))/\Hid (bp wr blk off (P++A++B++S))/\Hid (w.grownBy wr (some blk))) (fun i j _=>(intOf j).toNat-(intOf i).toNat);case atStart=>exact⟨s0,r0,rfl,rfl,ai _,FD,ai _,fun h=>by omega,fun h=>by omega,HR,ee _ _⟩
  case round=>
   obtain⟨s,r,rfl,rfl,FC,zqy,MQ,pE,O6,hrow,fY⟩:=hrel;by_cases hlt:s<r
   ·have aN:(s:Int)<(r:Int):=by omega
    obtain⟨q,hq⟩:∃q:Nat,(s+r)/2=q:=⟨_,rfl⟩;have hqi:((s:Int)+(r:Int))/2=(q:Int):=by omega
    have tF:s<=q:=by omega
    have vq:q<r:=by omega
    have hqn:(q:Int)<(n:Int):=by omega
    obtain⟨u,hu⟩:∃u:Nat,ff+m-1-q=u:=⟨_,rfl⟩;have hui:(p:Int)-(q:Int)=(u:Int):=by have:=HP'.out;omega
    have hun:(u:Int)<(n:Int):=by omega
    have HU:Hid (u=m+(ff-1-q)):=by show _=_;omega
    have hwu:IntKind.i64.wrap (u:Int)=(u:Int):=IntWalk.i64_in _ ⟨by omega,by omega⟩;have Gl:q-a<A.length:=by omega
    have Za:ff-1-q<B.length:=by omega
    obtain⟨x,hx⟩:=ag (A[q-a]?.getD 0);obtain⟨y,hy⟩:=ag (B[ff-1-q]?.getD 0);have HXe:=qH<|hx;have HYe:=qH<|hy;have Pt:Hid (x∈A):=by show x∈A;rw[<-hx];exact gu Gl
    have Pv:Hid (y∈B):=by show y∈B;rw[<-hy];exact gu Za
    have Pa:=HN.out;have c0:wr.cell? (az blk (off+q))=some (Iq x):=by rw[(hrow.2 q (by omega)).1,show q=a+(q-a)by omega,HAt _ Gl,hx]
    have c1:wr.cell? (az blk (off+u))=some (Iq y):=by rw[(hrow.2 u (by omega)).1,HU.out,Nb _ Za,hy]
    have kx:Hid (Cw g (#[Iq y,Iq x]++lb) wr.drew fun e W'=>e=Rw (Iq (cf y x))/\Bt wr W'):=by refine(Wa wr.drew (gK (grown_trans Mz fY)) y (iM y Pv) x (zt x Pt)).mono ?_;rintro e w2 ⟨rfl,b2⟩;exact⟨rfl,(aj wr.heap.size wr).drew.trans b2⟩
    obtain⟨z,hz⟩:=ag (cf y x);have HZ:=qH<|hz;rw[hz]at kx;clear hq hx hy Pa hz hu Gl Za;go_wp2_with fail;go_cut[171]from 158 to 171 (fun v wx=>v=.bool (!decide (z<0))/\Bt wr wx);case first=>
     go_region_with(refine kx.mono ?_;rintro e wq ⟨rfl,bq⟩);all_goals(go_wp2_with fail)
     all_goals go_meet
     all_goals exact⟨rfl,bq⟩
    case rest=>
     obtain⟨rfl,bx⟩:=hcut;have jj:=qH<|hrow.below bx;have pV:=qH<|grown_trans fY (grown_below bx);clear hrow fY c0 c1 kx;by_cases eG:z<0
     ·have Us:Hid (q<r0->R (B[ff-1-q]?.getD 0) (A[q-a]?.getD 0)):=by intro _;rw[HXe.out,HYe.out];exact HO.lt y (iM y Pv) x (zt x Pt) (by rw[HZ.out];exact eG)
      have hd:(!decide (z<0))=false:=by simp[eG]
      rw[hd];go_wp2;go_roundw;case rel=>exact⟨s,q,rfl,rfl,FC,by omega,by omega,pE,Us,jj,pV⟩
      case measure=>simp[intOf];omega
     ·have O':Hid (s0<q+1->R (A[q+1-1-a]?.getD 0) (B[ff-(q+1)]?.getD 0)):=by intro _;rw[show q+1-1-a=q-a by omega,show ff-(q+1)=ff-1-q by omega,HXe.out,HYe.out];exact HO.ge x (zt x Pt) y (iM y Pv) (HT x Pt y Pv) (by rw[HZ.out];exact eG)
      have hd:(!decide (z<0))=true:=by simp[eG]
      rw[hd];go_wp2;go_roundw;case rel=>exact⟨q+1,r,by go_num,rfl,by omega,by omega,MQ,O',O6,jj,pV⟩
      case measure=>simp[intOf];omega
   ·have aN:¬(s:Int)<(r:Int):=by omega
    obtain rfl:s=r:=by omega
    obtain⟨e,he⟩:∃e:Nat,ff+m-s=e:=⟨_,rfl⟩;have hei:(n':Int)-(s:Int)=(e:Int):=by have:=HP'.out;omega
    have _3:e+s<=ff+m:=by omega
    have Y3:ff+m<=e+s:=by omega
    obtain⟨A1,hA1⟩:=ag (A.take (s-a));obtain⟨A2,IM⟩:=ag (A.drop (s-a));obtain⟨B1,kH⟩:=ag (B.take (ff-s));obtain⟨B2,oy⟩:=ag (B.drop (ff-s));have LA1:Hid (A1.length=s-a):=by show _=_;rw[<-hA1,cX];omega
    have _G:Hid (A2.length=m-s):=by show _=_;rw[<-IM,dq];omega
    have _H:Hid (B1.length=ff-s):=by show _=_;rw[<-kH,cX];omega
    have LB2:Hid (B2.length=b-e):=by show _=_;rw[<-oy,dq];omega
    have EA:Hid (A=A1++A2):=by show _=_;rw[<-hA1,<-IM,gU]
    have EB:Hid (B=B1++B2):=by show _=_;rw[<-kH,<-oy,gU]
    have X1:Hid (∀x∈A1,∀y∈B2,R x y):=by
     show∀x∈A1,∀y∈B2,R x y;rw[<-hA1,<-oy];refine WG HO V5 V7 zt iM _ _ (by omega) fun h0 h1=>?_;have hss:s0<s:=by rcases HD.out with⟨d1,d2,d3⟩|⟨d1,d2⟩<;>omega
     have:=pE hss;rwa[show s-1-a=s-a-1 by omega]at this
    have X2:Hid (∀x∈B1,∀y∈A2,R x y):=by
     show∀x∈B1,∀y∈A2,R x y;rw[<-kH,<-IM];refine WG HO V7 V5 iM zt _ _ (by omega) fun h0 h1=>?_;have hss:s<r0:=by rcases HD.out with⟨d1,d2,d3⟩|⟨d1,d2⟩<;>omega
     have:=O6 hss;rwa[show ff-1-s=ff-s-1 by omega]at this
    clear hA1 IM kH oy pE O6 he HAt Nb Wa HD;have PA:Hid (A1.Pairwise R/\A2.Pairwise R/\B1.Pairwise R/\B2.Pairwise R):=by have h1:=V5.out;rw[EA.out]at h1;have h2:=V7.out;rw[EB.out]at h2;exact⟨(lj.1 h1).1,(lj.1 h1).2.1,(lj.1 h2).1,(lj.1 h2).2.1⟩
    have MA:Hid ((∀x∈A1,x∈A)/\(∀x∈A2,x∈A)/\(∀x∈B1,x∈B)/\(∀x∈B2,x∈B)):=by refine⟨?_,?_,?_,?_⟩<;>intro x hx<;>first|(rw[EA.out];exact jW.2 (Or.inl hx))|(rw[EA.out];exact jW.2 (Or.inr hx))|(rw[EB.out];exact jW.2 (Or.inl hx))|(rw[EB.out];exact jW.2 (Or.inr hx))
    have HR0:Hid (bp wr blk off (P++A1++A2++B1++(B2++S))):=by have:=hrow.out;rw[EA.out,EB.out]at this;show bp _ _ _ _;simpa[dt]using this
    have HL0:Hid (P.length+A1.length+A2.length+B1.length+B2.length+S.length=n):=by have:=HN.out;rw[EA.out,EB.out]at this;show _=_;simp only[bm]at this;omega
    have kx:Hid (s<m->s<ff->Cw 283 #[.slice (some (az blk off)) n cap,Iq s,Iq m,Iq e,.func (.func g) #[] lb] wr fun e w'=>e=Rw (.tuple #[])/\bp w' blk off (P++A1++B1++(A2++B2++S))/\w.grownBy w' (some blk)):=by
     intro h1 h2;have:=LA1.out;have:=_G.out;have:=_H.out;have:=HA.out;have:=HL0.out;have e0:(P++A1++A2++B1++(B2++S)).length=n:=by simp only[bm];omega
     have e1:(P++A1).length=s:=by simp only[bm];omega
     have e2:(P++A1).length+A2.length=m:=by simp only[bm];omega
     have e3:(P++A1).length+A2.length+B1.length=e:=by simp only[bm];omega
     have c:=Hp (P++A1) A2 B1 (B2++S) blk off cap (.func (.func g) #[] lb) wr HR0 (by omega) (by omega) (by omega);rw[e3,e2,e1,e0]at c;refine c.mono ?_;rintro ex w' ⟨rfl,r1,g1⟩;exact⟨rfl,by simpa[dt]using r1,grown_trans fY g1⟩
    have HC2:Hid (∀w2,bp w2 blk off (P++A1++B1++(A2++B2++S))->w.grownBy w2 (some blk)->a<s->s<ff->Cw 267 #[.slice (some (az blk off)) n cap,Iq a,Iq s,Iq ff,.func (.func g) #[] lb] w2 fun e w'=>e=Rw (.tuple #[])/\(∃M1:List Int,M1.Perm (A1++B1)/\M1.Pairwise R/\bp w' blk off (P++M1++(A2++B2++S)))/\w.grownBy w' (some blk)):=by intro w2 hr2 kU h1 h2;have:=LA1.out;have:=_G.out;have:=_H.out;have:=LB2.out;have:=HA.out;have:=HL0.out;refine(HI P A1 B1 (A2++B2++S) w2 n a s ff (by omega) (grown_trans Mz kU) hr2 (fun x hx=>zt x (MA.1 x hx)) (fun x hx=>iM x (MA.2.2.1 x hx)) PA.1 PA.2.2.1 (fun x hx y hy=>HT x (MA.1 x hx) y (MA.2.2.1 y hy)) (by omega) (by omega) (by simp only[bm];omega) bY HA (by omega) (by omega)).mono ?_;rintro ex w' ⟨rfl,m1,g1⟩;exact⟨rfl,m1,grown_trans kU g1⟩
    have zw:Hid (∀M1:List Int,M1.Perm (A1++B1)->∀w2,bp w2 blk off (P++M1++(A2++B2++S))->w.grownBy w2 (some blk)->s<m->e<b->Cw 267 #[.slice (some (az blk off)) n cap,Iq ff,Iq e,Iq b,.func (.func g) #[] lb] w2 fun e w'=>e=Rw (.tuple #[])/\(∃M2:List Int,M2.Perm (A2++B2)/\M2.Pairwise R/\bp w' blk off (P++M1++M2++S))/\w.grownBy w' (some blk)):=by
     intro M1 hM1 w2 hr2 kU h1 h2;have:=LA1.out;have:=_G.out;have:=_H.out;have:=LB2.out;have:=HA.out;have:=HL0.out;have hl:=hM1.length_eq;rw[bm]at hl;have BJ:bp w2 blk off ((P++M1)++A2++B2++S):=by simpa[dt]using hr2
     refine(HI (P++M1) A2 B2 S w2 n ff e b (by omega) (grown_trans Mz kU) BJ (fun x hx=>zt x (MA.2.1 x hx)) (fun x hx=>iM x (MA.2.2.2 x hx)) PA.2.1 PA.2.2.2 (fun x hx y hy=>HT x (MA.2.1 x hx) y (MA.2.2.2 y hy)) (by omega) (by omega) (by simp only[bm];omega) bY (by simp only[bm];omega) (by simp only[bm];omega) (by simp only[bm];omega)).mono ?_;rintro ex w' ⟨rfl,m1,g1⟩;exact⟨rfl,m1,grown_trans kU g1⟩
    have HEnd:Hid (∀M1 M2:List Int,∀w',M1.Perm (A1++B1)->M1.Pairwise R->M2.Perm (A2++B2)->M2.Pairwise R->bp w' blk off (P++M1++M2++S)->w.grownBy w' (some blk)->ux w w' blk off R P A B S):=by
     intro M1 M2 w' h1 p1 h2 p2 hr hg;refine⟨⟨M1++M2,?_,?_,by simpa[dt]using hr⟩,hg⟩;·rw[EA.out,EB.out];exact KQ _ _ _ _ _ _ h1 h2
     ·have h3:=V5.out;rw[EA.out]at h3;have h4:=V7.out;rw[EB.out]at h4;exact KO A1 A2 B1 B2 M1 M2 h1 h2 p1 p2 h3 h4 X1 X2
    have vr:Hid (m<=s\/ff<=s->bp wr blk off (P++A1++B1++(A2++B2++S))):=by
     intro hc;have:=_G.out;have:=_H.out;have h0:=HR0.out;rcases hc with hc|hc;·rw[ni (show A2.length=0 by omega)]at h0⊢;simpa[dt]using h0
     ·rw[ni (show B1.length=0 by omega)]at h0⊢;simpa[dt]using h0
    have zhn:Hid (s<=a\/ff<=s->(A1++B1).Pairwise R):=by
     intro hc;have:=LA1.out;have:=_H.out;rcases hc with hc|hc;·rw[ni (show A1.length=0 by omega)];exact PA.2.2.1
     ·rw[ni (show B1.length=0 by omega),lZ];exact PA.1
    have zho:Hid (m<=s\/b<=e->(A2++B2).Pairwise R):=by
     intro hc;have:=_G.out;have:=LB2.out;rcases hc with hc|hc;·rw[ni (show A2.length=0 by omega)];exact PA.2.2.2
     ·rw[ni (show B2.length=0 by omega),lZ];exact PA.2.1
    have Heb:e<=b:=by omega
    clear hrow HR0 EA EB X1 X2 PA MA HL0 LA1 _G _H LB2 HI V5 V7 zt iM HT HO HN;have HK1:Hid (∀w2,bp w2 blk off (P++A1++B1++(A2++B2++S))->(s<=a\/ff<=s)->∃M1:List Int,M1.Perm (A1++B1)/\M1.Pairwise R/\bp w2 blk off (P++M1++(A2++B2++S))):=fun w2 h hc=>⟨A1++B1,Rr _,zhn hc,by grind⟩;have mh:Hid (∀M1 w3,bp w3 blk off (P++M1++(A2++B2++S))->(m<=s\/b<=e)->∃M2:List Int,M2.Perm (A2++B2)/\M2.Pairwise R/\bp w3 blk off (P++M1++M2++S)):=fun M1 w3 h hc=>⟨A2++B2,Rr _,zho hc,by simpa[dt]using h⟩;by_cases i1:(s:Int)<(m:Int)<;>by_cases i2:(m:Int)<(e:Int)<;>by_cases i3:(a:Int)<(s:Int)<;>by_cases i4:(s:Int)<(ff:Int)<;>by_cases i5:(ff:Int)<(e:Int)<;>by_cases i6:(e:Int)<(b:Int)<;>try(exfalso;omega)
    all_goals
     first
      |(have h0:=kx (by omega) (by omega);go_wp2_with fail;refine ao h0 ?_;clear h0;rintro ex w2 ⟨rfl,r2,g2⟩)
      |(have r2:=vr (by omega);have g2:=fY.out)
     have HR2:=qH<|r2;have gX:=qH<|g2;clear r2 g2 kx vr;first
      |(have h0:=HC2 _ HR2 gX (by omega) (by omega);go_wp2_with fail;refine ao h0 ?_;clear h0;rintro ex w3 ⟨rfl,⟨M1,q1,q2,r3⟩,g3⟩)
      |(obtain⟨M1,q1,q2,r3⟩:=HK1 _ HR2 (by omega);have g3:=gX.out)
     have HQ1:=qH<|q1;have HQ2:=qH<|q2;have HR3:=qH<|r3;have Fj:=qH<|g3;clear q1 q2 r3 g3 HR2 gX HC2 HK1;first
      |(have h0:=zw M1 HQ1 _ HR3 Fj (by omega) (by omega);go_wp2_with fail;refine ao h0 ?_;clear h0;rintro ex w4 ⟨rfl,⟨M2,q3,q4,r4⟩,g4⟩)
      |(obtain⟨M2,q3,q4,r4⟩:=mh M1 _ HR3 (by omega);have g4:=Fj.out)
     have HZ:=qH<|HEnd M1 M2 _ HQ1 HQ2 q3 q4 r4 g4;clear q3 q4 r4 g4 HEnd zw mh;go_wp2;go_end0;exact⟨rfl,HZ⟩
theorem Jy(g:Nat)  lb  (eg:∀args w,(callFunc g args).run prog w=.ok (.enter g args) w)  cf   D   R  (hO:Ord cf D R)  w0   blk off cap  (hcmp:BO g lb cf D w0 blk):∀N,Wu g lb cf D R w0 blk off cap N
 |0=>fun P A B S w n a m b hN hw0 h hAD hBD hAP hBP hlt _X su hn bY ha hm hb=>by omega
 |N+1=>fun P A B S w n a m b hN hw0 h hAD hBD hAP hBP hlt _X su hn bY ha hm hb=>by
  by_cases h1:A.length=1;·obtain⟨x,rfl⟩:=Jv h1;have c:=Q5 g lb eg cf D R hO w0 P x B S blk off cap hcmp w hw0 h (hAD x (by simp)) hBD hBP (fun y hy=>hlt x (by simp) y hy) su (by omega);rw[hn,ha,show a+1=m by omega,show m+B.length=b by omega]at c;refine c.mono ?_;rintro ex w' ⟨rfl,⟨B1,B2,rfl,x1,x2,r⟩,g1⟩;refine⟨rfl,⟨B1++[x]++B2,?_,?_,by grind⟩,g1⟩;all_goals grind
  ·by_cases h2:B.length=1;·obtain⟨y,rfl⟩:=Jv h2;have c:=Mq g lb eg cf D R hO w0 P A y S blk off cap hcmp w hw0 h (hBD y (by simp)) hAD hAP (fun x hx=>hlt x hx y (by simp)) (by omega) (by omega);rw[hn,show P.length+A.length+1=b by omega,hm,ha]at c;refine c.mono ?_;rintro ex w' ⟨rfl,⟨A1,A2,rfl,x1,x2,r⟩,g1⟩;refine⟨rfl,⟨A1++[y]++A2,?_,?_,by grind⟩,g1⟩;all_goals grind
   ·exact Q4 g lb eg cf D R hO w0 blk off cap hcmp N (Jy g lb eg cf D R hO w0 blk off cap hcmp N) P A B S w n a m b hN hw0 h hAD hBD hAP hBP hlt (by omega) (by omega) hn bY ha hm hb
def fB(W:World)(b:Nat)(v:Nat->Value):Prop:=b<W.heap.size/\∀k,k<12->W.cell? (az b k)=some (v k)/\W.frozen? (az b k)=false
theorem pS{W W':World}{b}(h:W'.heap[b]?=W.heap[b]?)  k  :W'.frozen? (az b k)=W.frozen? (az b k):=by unfold World.frozen?;rw[h]
theorem fB.keep{W W'}{b}{v}(h:fB W b v)(hz:W.heap.size<=W'.heap.size)(hb:W'.heap[b]?=W.heap[b]?):fB W' b v:=
 ⟨zz008 h.1 hz,fun k hk=>⟨(bU (a:=(az b k)) hb).trans (h.2 k hk).1,(pS hb k).trans (h.2 k hk).2⟩⟩
theorem fB.grown{W W'}{b r}{v}(h:fB W b v)(g:W.grownBy W' (some r))(hr:b≠r):fB W' b v:=h.keep g.size (g.block b h.1 (fun e=>hr (by grind)))
theorem fB.below{W W'}{b}{v}(h:fB W b v)(g:Bt W W'):fB W' b v:=h.keep g.size (g.block b h.1)
theorem fB.set{W}{b k}{v}(h:fB W b v)(hk:k<12)  u  :fB (W.setCell (az b k) u) b (fun j=>if j=k then u else v j):=by
 refine⟨by simpa[World.setCell]using h.1,fun j hj=>⟨?_,(ij _ _ _ _).trans (h.2 j hj).2⟩⟩;by_cases e:j=k;·subst e;show _=some (if j=j then u else v j);rw[if_pos rfl];exact xa _ _ _ (h.2 j hj).1
 ·show _=some (if j=k then u else v j);rw[if_neg e,eu _ _ _ _ (fun q=>by grind)];exact(h.2 j hj).1
theorem fB.other{W}{b b' k}{v}(h:fB W b v)(hb:b≠b')  u  :fB (W.setCell (az b' k) u) b v:=
 h.keep (by simp_all) (cF W (az b' k) u b hb)
theorem RS.other{W}{rb b k}{s}{i}{lv}{bad er at_ aQ}(h:RS W rb s i lv bad er at_ aQ)(hb:rb≠b)  u  :RS (W.setCell (az b k) u) rb s i lv bad er at_ aQ:=by have hh:=cF W (az b k) u rb hb;have c:=fun j=>bU (a:=(az rb j)) hh;exact⟨by simpa[World.setCell]using h.lt,(c 0).trans h.c0,(c 1).trans h.c1,(c 2).trans h.c2,(c 3).trans h.c3,(c 4).trans h.c4,(c 5).trans h.c5,(c 6).trans h.c6,fun j=>(pS hh j).trans (h.fz j)⟩
structure AS(w wi:World)(rb ab sb:Nat)(s:ByteArray)(i:Nat)(lv:Value)(bad aQ:Int)(f:gW)(j:Nat)(a:List Int)(seen:List Nat):Prop where
 rs:∃er at_,RS wi rb s i lv bad er at_ aQ/\FL er at_ f j
 len:a.length=12
 ar:fB wi ab (fun k=>Iq (a[k]?.getD 0))
 sr:fB wi sb (fun k=>.bool (seen.contains k))
 gr:w.grownBy wi (some rb)
structure AB(w:World)(rb ab sb:Nat):Prop where
 r:rb<w.heap.size
 a:w.heap.size<=ab
 s:w.heap.size<=sb
 ne:ab≠sb
section
variable{w wi wj:World} {rb ab sb:Nat} {s:ByteArray} {i i' j j':Nat} {lv:Value} {bad Kb aQ:Int} {f f':gW} {a:List Int} {seen:List Nat}
theorem AS.next(h:AS w wi rb ab sb s i lv bad aQ f j a seen)(hB:AB w rb ab sb){er at_}(hr:RS wj rb s i' lv Kb er at_ aQ)(hf:FL er at_ f' j')(hg:wi.grownBy wj (some rb)):AS w wj rb ab sb s i' lv Kb aQ f' j' a seen:=
 ⟨⟨er,at_,hr,hf⟩,h.len,h.ar.grown hg (by have:=hB.r;have:=hB.a;omega),h.sr.grown hg (by have:=hB.r;have:=hB.s;omega),gr_trans h.gr hg⟩
theorem AS.below(h:AS w wi rb ab sb s i lv bad aQ f j a seen)(hb:Bt wi wj):AS w wj rb ab sb s i lv bad aQ f j a seen:=by obtain⟨er,at_,h1,h2⟩:=h.rs;exact⟨⟨er,at_,h1.below hb,h2⟩,h.len,h.ar.below hb,h.sr.below hb,gr_trans h.gr (fG hb)⟩
theorem AS.on(h:AS w wi rb ab sb s i lv bad aQ f j a seen)(hj:j<=j'):AS w wi rb ab sb s i lv bad aQ f j' a seen:=by obtain⟨er,at_,h1,h2⟩:=h.rs;exact⟨⟨er,at_,h1,h2.on hj⟩,h.len,h.ar,h.sr,h.gr⟩
theorem OJ{W0 W:World}{r b k}{u}(h:W0.grownBy W (some r))(hb:W0.heap.size<=b):W0.grownBy (W.setCell (az b k) u) (some r):=
 ⟨h.os,h.tape,h.output,by simpa[World.setCell]using h.size,fun c hc hr=>(cF W (az b k) u c (by grind)).trans (h.block c hc hr)⟩
theorem AS.setA(h:AS w wi rb ab sb s i lv bad aQ f j a seen)(hB:AB w rb ab sb){k}(hk:k<12)  n  :AS w (wi.setCell (az ab k) (Iq n)) rb ab sb s i lv bad aQ f j (a.set k n) seen:=by
 obtain⟨er,at_,h1,h2⟩:=h.rs;have hr:=hB.r;have ha:=hB.a;refine⟨⟨er,at_,h1.other (by omega) _,h2⟩,by rw[Rs];exact h.len,?_,h.sr.other (fun e=>hB.ne e.symm) _,OJ h.gr ha⟩;have e:(fun j=>if j=k then Iq n else Iq (a[j]?.getD 0))=fun j=>Iq ((a.set k n)[j]?.getD 0):=by
  funext j;by_cases hj:j=k;·subst hj;rw[if_pos rfl,Ro (by rw[h.len];exact hk)];rfl
  ·grind
 have:=h.ar.set hk (Iq n);grind
theorem AS.setS(h:AS w wi rb ab sb s i lv bad aQ f j a seen)(hB:AB w rb ab sb){k}(hk:k<12):AS w (wi.setCell (az sb k) (.bool true)) rb ab sb s i lv bad aQ f j a (k::seen):=by
 obtain⟨er,at_,h1,h2⟩:=h.rs;have hr:=hB.r;have ha:=hB.s;refine⟨⟨er,at_,h1.other (by omega) _,h2⟩,h.len,h.ar.other hB.ne _,?_,OJ h.gr ha⟩;have e:(fun j=>if j=k then Value.bool true else .bool (seen.contains j))=fun j=>.bool ((k::seen).contains j):=by
  funext j;by_cases hj:j=k;·grind
  ·grind
 have:=h.sr.set hk (.bool true);grind
end
def Wo(w:World)(rb:Nat)(lv:Value)(L:List Nd):Prop:=(L=[]/\lv=.slice none 0 0)\/∃(g cap:Nat) (AV:Nat->Nat),lv=Sq g L.length cap/\g<w.heap.size/\g≠rb/\∀k,k<L.length->w.cell? (az g (k*5+1))=some (Sq (AV k) 12 12)/\AV k<w.heap.size/\AV k≠rb/\w.cell? (az (AV k) 0)=some (Iq ((L.map (fun d=>d.attr[0]?.getD 0))[k]?.getD 0))
theorem hasId_take(L:List Nd)  n   k  (hk:k<L.length):fI (L.take (k+1)) n=(fI (L.take k) n||((L.map (fun d=>d.attr[0]?.getD 0))[k]?.getD 0==n)):=by unfold fI;rw[lk hk,Rt];simp[hk]
theorem NN  f   b b'   c p  :bS (b||b') f c p=bS b' (bS b f c p) c p:=by cases b<;>cases b'<;>cases f<;>rfl
def AI(s:ByteArray)(kind:Nat)(L:List Nd)(R:Except Nat (Nat×gW×List Int))(eY:Int)(more:Bool)(i:Nat)(bad:Int)(f:gW)(a:List Int)(seen:List Nat):Prop:=
 (bad=eY/\more=true/\∃fuel,s.size-i<fuel/\d_ s kind L fuel i f a seen=R)\/(bad=eY/\more=false/\mG s i f a=R)\/(0<=bad/\more=false/\R=.error bad.toNat)
theorem AI.round{s}{kind}{L}{R}{eY}(hb:eY<0){i}{f}{a}{seen}(hi:i<=s.size){fuel}(hf:s.size-i<fuel)(h:d_ s kind L fuel i f a seen=R):
 AI s kind L R eY (gB s (bF s i eY).i 59 (bF s i eY).bad) (mI s (bF s i eY).i 59 (bF s i eY).bad) (bF s i eY).bad (fa kind L f a seen (bF s i eY)).1 (fa kind L f a seen (bF s i eY)).2.1 (fa kind L f a seen (bF s i eY)).2.2
 /\(gB s (bF s i eY).i 59 (bF s i eY).bad=true->i<mI s (bF s i eY).i 59 (bF s i eY).bad):=by
 obtain⟨g,rfl⟩:∃g,fuel=g+1:=⟨fuel-1,by omega⟩;have pl:=lL s i eY;have sz:=wK s i eY hi;have hst:=oO s kind L i f a seen eY hb;obtain⟨q,hq⟩:=ag (fa kind L f a seen (bF s i eY));rw[hq]at hst⊢;clear hq;obtain⟨f2,a2,s2⟩:=q;simp only;rcases hst with⟨h1,h2⟩|⟨h1,h2⟩
 ·rw[h1];have hg:gB s (bF s i eY).i 59 eY=aT s (bF s i eY).i 59:=by unfold gB;rw[if_pos hb]
  have hm:mI s (bF s i eY).i 59 eY=aA s (bF s i eY).i 59:=by unfold mI;rw[if_pos hb]
  rw[hg,hm];by_cases b9:aT s (bF s i eY).i 59=true
  ·have zcy:aA s (bF s i eY).i 59=sk s (bF s i eY).i+1:=by unfold aA;rw[if_pos (by grind[aT])]
   have:=dX s (bF s i eY).i;have hle:=eU (c:=59) (by omega) sz;rw[zcy]at hle;refine⟨.inl ⟨rfl,b9,g,?_,?_⟩,fun _=>by omega⟩;all_goals grind[my]
  ·have zcy:aA s (bF s i eY).i 59=sk s (bF s i eY).i:=by unfold aA;rw[if_neg (by grind[aT])]
   refine⟨.inr (.inl ⟨rfl,by grind,?_⟩),fun e=>absurd e b9⟩;grind[Kk,mw]
 ·have hn:¬(bF s i eY).bad<0:=by omega
  have hg:gB s (bF s i eY).i 59 (bF s i eY).bad=false:=by unfold gB;rw[if_neg hn]
  rw[hg];refine⟨.inr (.inr ⟨h1,rfl,?_⟩),fun e=>by cases e⟩;grind[oP]
def Qc:Value->Bool
 |.bool b=>b
 |_=>false
