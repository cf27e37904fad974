import Derived.Test.YtbeiapdobffpiaaGreatDoorQ00
import Derived.Deep.RegionWith
import Derived.Deep.CutRange
import Derived.Test.YtbeiapdobffpiaaGreatDoorQ08
set_option linter.all false
set_option maxRecDepth 100000
set_option maxHeartbeats 16000000
namespace Go.Proofs.YtbeiapdobffpiaaGreatDoor
open Go.RowKit Go.Proofs.Tryz
def xV(g:Nat)(lb:Array Value)(cf:Int->Int->Int)(D:List Int)(w0:World)(blk:Nat):Prop:=
 ∀W,w0.grownBy W (some blk)->∀x∈D,∀y∈D,Cw g (#[Iq x,Iq y]++lb) W fun e W'=>e=Rw (Iq (cf x y))/\Bt W W'
structure Ord(cf:Int->Int->Int)(D:List Int)(R:Int->Int->Prop):Prop where
 lt:∀x∈D,∀y∈D,cf x y<0->R x y
 ge:∀x∈D,∀y∈D,x<y->¬cf y x<0->R x y
 trans:∀x∈D,∀y∈D,∀z∈D,R x y->R y z->R x z
 bd:∀x∈D,∀y∈D,-1<=cf x y/\cf x y<=1
theorem jW{R}{B:List Int}(h:B.Pairwise R){i j}(Ez:i<j)(hj:j<B.length):R (B[i]?.getD 0) (B[j]?.getD 0):=by rw[dN hj,dN (by omega)];exact Mj.1 h i j (by omega) hj Ez
theorem fl{B:List Int}{i}(hi:i<B.length):B[i]?.getD 0∈B:=by grind
theorem jc{B:List Int}{c}{y}(h:y∈B.take c):∃k,k<c/\k<B.length/\B[k]?.getD 0=y:=by obtain⟨k,hk,e⟩:=ox.1 h;rw[cX]at hk;refine⟨k,by omega,by omega,?_⟩;grind
theorem kT{B:List Int}{c}{y}(h:y∈B.drop c):∃k,c<=k/\k<B.length/\B[k]?.getD 0=y:=by obtain⟨k,hk,e⟩:=ox.1 h;rw[cW]at hk;refine⟨c+k,by omega,by omega,?_⟩;grind
theorem oJ(X:List Int)  p q   Y  :(X++[p]++[q]++Y)[X.length]?.getD 0=p/\(X++[p]++[q]++Y)[X.length+1]?.getD 0=q:=by grind
theorem sZ  X   p q   Y  :swp (X++[p]++[q]++Y) X.length (X.length+1)=X++[q]++[p]++Y:=by have:=vh X [p] [] [q] Y rfl;simp only[j_,fB,iS,Fa,bC]at this;exact this
theorem jI(B:List Int)  e  (h:e<B.length):B.take (e+1)=B.take e++[B[e]?.getD 0]/\B.drop e=[B[e]?.getD 0]++B.drop (e+1):=by simp_all
theorem LQ(g:Nat)(lb:Array Value)(eg:∀args w,(callFunc g args).run prog w=.ok (.enter g args) w)(cf:Int->Int->Int)(D:List Int)(R:Int->Int->Prop)(hO:Ord cf D R)(w0:World)(P:List Int)(x:Int)(B S:List Int)(blk off al:Nat)(hcmp:xV g lb cf D w0 blk)(w:World)(hw0:w0.grownBy w (some blk))(h:a_ w blk off (P++[x]++B++S))
 (hx:x∈D) (hB:∀y∈B,y∈D) (hBp:B.Pairwise R) (hT:∀y∈B,x<y) (Eu:0<B.length) (bH:(P++[x]++B++S).length<=1099511627776):
 Cw 266 #[.slice (some (az blk off)) (P++[x]++B++S).length al,Iq P.length,Iq ((P.length+1:Nat):Int),Iq ((P.length+1+B.length:Nat):Int),.func (.func g) #[] lb] w fun e w'=>e=Rw (.tuple #[])/\(∃B1 B2,B=B1++B2/\(∀y∈B1,R y x)/\(∀y∈B2,R x y)/\a_ w' blk off (P++B1++[x]++B2++S))/\w.grownBy w' (some blk):=by
 have HR:=qH<|h;have HO:=qH<|hO;have Ia:=qH<|hw0;have Qh:=qH<|hcmp;have MK:=qH<|hx;have iW:=qH<|hB;have Qe:=qH<|hBp;have HTB:=qH<|hT;obtain⟨n,hn⟩:=aj ((P++[x]++B++S).length);obtain⟨a,ha⟩:=aj P.length;obtain⟨b,hb⟩:=aj (P.length+1+B.length);obtain⟨m,hm⟩:=aj (P.length+1);have Bz:b<=n:=by rw[<-hb,<-hn];simp only[bf,fB,iS];omega
 have hma:(m:Int)-(a:Int)=1:=by omega
 have zi3:b<=m+B.length:=by omega
 have zi4:m+B.length<=b:=by omega
 have zco:m<=a+1:=by omega
 have zcp:a+1<=m:=by omega
 have HN:=qH<|hn;have HA:=qH<|ha;have HX:Hid ((P++[x]++B++S)[a]?.getD 0=x):=by show _=_;rw[<-ha];simp[cO]
 have Iz:Hid (∀t,t<B.length->(P++[x]++B++S)[m+t]?.getD 0=B[t]?.getD 0):=by intro t ht;rw[ir,if_pos (by grind),ir,if_neg (by grind)];congr 2;simp only[bf,fB,iS];omega
 rw[hn]at bH⊢;rw[hb,hm,ha];clear h hO hw0 hcmp hx hB hBp hT hn ha hb hm;go_enter func266,ntmps266;go_wp2;go_loopw[10,11] (fun i j wr=>∃s t:Nat,i=Iq s/\j=Iq t/\m<=s/\s<=t/\t<=b/\Hid (∀k,m+k<s->R (B[k]?.getD 0) x)/\Hid (∀k,t<=m+k->k<B.length->R x (B[k]?.getD 0))/\Hid (a_ wr blk off (P++[x]++B++S))/\Hid (w.grownBy wr (some blk))) (fun i j _=>(intOf j).toNat-(intOf i).toNat);case atStart=>exact⟨m,b,rfl,rfl,ai _,by omega,ai _,fun k hk=>by omega,fun k h1 h2=>by omega,HR,dA _ _⟩
 case round=>
  obtain⟨s,t,rfl,rfl,oW,hst,htb,mX,J8,hrow,fQ⟩:=hrel;by_cases hlt:s<t
  ·have aK:(s:Int)<(t:Int):=by omega
   obtain⟨q,hq⟩:∃q:Nat,(s+t)/2=q:=⟨_,rfl⟩;have ZV:((s:Int)+(t:Int))/2=(q:Int):=by omega
   have tR:s<=q:=by omega
   have wQ:q<t:=by omega
   have XU:(q:Int)<(n:Int):=by omega
   have han:(a:Int)<(n:Int):=by omega
   obtain⟨k,hk⟩:∃k,q=m+k:=⟨q-m,by omega⟩;have S_:k<B.length:=by omega
   obtain⟨y,hy⟩:=aj (B[k]?.getD 0);have HY:=qH<|hy;have HK:=qH<|hk;have Kr:Hid (y∈B):=by show y∈B;rw[<-hy];exact fl S_
   have Ka:=HN.out;have c0:wr.cell? (az blk (off+q))=some (Iq y):=by rw[(hrow.2 q (by omega)).1,hk,Iz k S_,hy]
   have c1:wr.cell? (az blk (off+a))=some (Iq x):=by rw[(hrow.2 a (by omega)).1,HX.out]
   have lp:Hid (Cw g (#[Iq y,Iq x]++lb) wr.drew fun e W'=>e=Rw (Iq (cf y x))/\Bt wr W'):=by refine(Qh wr.drew (fG (grown_trans Ia fQ)) y (iW y Kr) x MK).mono ?_;rintro e w2 ⟨rfl,b2⟩;exact⟨rfl,(ag wr.heap.size wr).drew.trans b2⟩
   obtain⟨z,hz⟩:=aj (cf y x);have HZ:=qH<|hz;rw[hz]at lp;clear hq hk hy Ka hz;go_wp2_with fail;go_cut[50]from 40 to 50 (fun v wx=>v=.bool (decide (z<0))/\Bt wr wx);case first=>
    go_region_with(refine lp.mono ?_;rintro e wq ⟨rfl,bq⟩);all_goals(go_wp2_with fail)
    all_goals go_meet
    all_goals simp_all
   case rest=>
    obtain⟨rfl,bx⟩:=hcut;have gY:=qH<|hrow.below bx;have np:=qH<|grown_trans fQ (grown_below bx);clear hrow fQ c0 c1 lp;by_cases eK:z<0
    ·have J':Hid (∀k',m+k'<q+1->R (B[k']?.getD 0) x):=by
      intro k' hk';have Ip:=HO.lt y (iW y Kr) x MK (by rw[HZ.out];exact eK);by_cases e:k'=k;·subst e;rw[HY.out];exact Ip
      ·have oE:k'<k:=by have:=HK.out;omega
       have h1:=jW Qe oE S_;rw[HY.out]at h1;exact HO.trans _ (iW _ (fl (by omega))) y (iW y Kr) x MK h1 Ip
     go_wp2;go_roundw;case rel=>exact⟨q+1,t,by go_num,rfl,by omega,by omega,htb,J',J8,gY,np⟩
     case measure=>simp[intOf];omega
    ·have OH:Hid (∀k',q<=m+k'->k'<B.length->R x (B[k']?.getD 0)):=by
      intro k' hk' dD;have zm:=HO.ge x MK y (iW y Kr) (HTB y Kr) (by rw[HZ.out];exact eK);by_cases e:k'=k;·subst e;rw[HY.out];exact zm
      ·have oE:k<k':=by have:=HK.out;omega
       have h1:=jW Qe oE dD;rw[HY.out]at h1;exact HO.trans x MK y (iW y Kr) _ (iW _ (fl dD)) zm h1
     go_wp2;go_roundw;case rel=>exact⟨s,q,rfl,rfl,oW,by omega,by omega,mX,OH,gY,np⟩
     case measure=>simp[intOf];omega
  ·have aK:¬(s:Int)<(t:Int):=by omega
   obtain rfl:s=t:=by omega
   obtain⟨c,hc⟩:∃c,s=m+c:=⟨s-m,by omega⟩;have Ug:=qH<|hc;have SS:s<=m+c:=by omega
   have Oz:m+c<=s:=by omega
   have hcB:c<=B.length:=by omega
   have HB1:Hid (∀y∈B.take c,R y x):=by intro y hy;obtain⟨k,hk,_,e⟩:=jc hy;rw[<-e];exact mX k (by omega)
   have HB2:Hid (∀y∈B.drop c,R x y):=by intro y hy;obtain⟨k,hk,dD,e⟩:=kT hy;rw[<-e];exact J8 k (by omega) dD
   clear hc;go_wp2;go_loopw[13] (fun i wr=>∃e u:Nat,a+e<=u/\u<=a+e/\i=Iq u/\e<=c/\Hid (a_ wr blk off (P++B.take e++[x]++B.drop e++S))/\Hid (w.grownBy wr (some blk))) (fun i _=>s-(intOf i).toNat);case atStart=>exact⟨0,a,by omega,by omega,rfl,bc _,by simp_all,fQ⟩
   case round=>
    obtain⟨e,u,CY,Tn,rfl,OE,jb,hgr2⟩:=hrel;by_cases qD:e<c
    ·have tQ:(u:Int)<(s:Int)-1:=by omega
     have heB:e<B.length:=by omega
     obtain⟨y,hy⟩:=aj (B[e]?.getD 0);obtain⟨Kl,OX⟩:=jI B e heB;rw[hy]at Kl OX;obtain⟨v,hv⟩:=aj (u+1);have hvi:(u:Int)+1=(v:Int):=by omega
     have huv:u<v:=by omega
     have xL:(P++B.take e).length=u:=by have:=HA.out;rw[bf,cX];omega
     have HL2:(P++B.take e++[x]++B.drop e++S).length=n:=by have:=HN.out;simp only[bf,cX,cW,fB,iS]at*;omega
     have hd:P++B.take e++[x]++B.drop e++S=(P++B.take e)++[x]++[y]++(B.drop (e+1)++S):=by rw[OX];simp[cO]
     have hr1:=jb.out;rw[hd]at hr1 HL2;have hdx:((P++B.take e)++[x]++[y]++(B.drop (e+1)++S))[u]?.getD 0=x:=by rw[<-xL];exact(oJ _ _ _ _).1
     have hdy:((P++B.take e)++[x]++[y]++(B.drop (e+1)++S))[v]?.getD 0=y:=by rw[<-hv,<-xL];exact(oJ _ _ _ _).2
     have c0:wr.cell? (az blk (off+u))=some (Iq x):=by rw[(hr1.2 u (by omega)).1,hdx]
     have f0:=(hr1.2 u (by omega)).2;have c1:wr.cell? (az blk (off+v))=some (Iq y):=by rw[(hr1.2 v (by omega)).1,hdy]
     have f1:=(hr1.2 v (by omega)).2;have BM:Hid (a_ ((wr.setCell (az blk (off+u)) (Iq y)).setCell (az blk (off+v)) (Iq x)) blk off (P++B.take (e+1)++[x]++B.drop (e+1)++S)):=by have:=lB hr1 u v (by omega) (by omega);rw[hdx,hdy]at this;have mZ:=sZ (P++B.take e) x y (B.drop (e+1)++S);rw[xL,hv]at mZ;rw[mZ]at this;show a_ _ _ _ _;rw[Kl];simpa[cO]using this
     have HG:Hid (w.grownBy ((wr.setCell (az blk (off+u)) (Iq y)).setCell (az blk (off+v)) (Iq x)) (some blk)):=
      grown_trans hgr2 (grown_trans (fd _ _ _ _) (fd _ _ _ _));have hun:(u:Int)<(n:Int):=by omega
     have hvn:(v:Int)<(n:Int):=by omega
     have hwv:IntKind.i64.wrap (v:Int)=(v:Int):=IntWalk.i64_in _ ⟨by omega,by omega⟩;clear hr1 hd hdx hdy Kl OX hy HL2 xL hv jb hgr2;go_wp2;go_big_region;go_wp2;go_roundw;case rel=>exact⟨e+1,v,by omega,by omega,rfl,by omega,BM,fG HG⟩
     case measure=>simp[intOf];omega
    ·have tQ:¬(u:Int)<(s:Int)-1:=by omega
     obtain rfl:e=c:=by omega
     go_wp2;try simp only[Exit.inBlock,Exit.then]
     refine bodyPost_ret (results_none rfl _ _ _) rfl ?_;exact⟨rfl,⟨B.take e,B.drop e,(gO _ _).symm,HB1,HB2,by simpa[cO]using jb.out⟩,hgr2⟩
theorem AL  d   i j  (hi:i<d.length) (hj:j<d.length):swp d i j=swp d j i:=by grind[uT,mQ,DS]
theorem Hv(g:Nat)(lb:Array Value)(eg:∀args w,(callFunc g args).run prog w=.ok (.enter g args) w)(cf:Int->Int->Int)(D:List Int)(R:Int->Int->Prop)(hO:Ord cf D R)(w0:World)(P A:List Int)(y:Int)(S:List Int)(blk off al:Nat)(hcmp:xV g lb cf D w0 blk)(w:World)(hw0:w0.grownBy w (some blk))(h:a_ w blk off (P++A++[y]++S))
 (hy:y∈D) (hA:∀x∈A,x∈D) (hAp:A.Pairwise R) (hT:∀x∈A,x<y) (UN:2<=A.length) (bH:(P++A++[y]++S).length<=1099511627776):
 Cw 266 #[.slice (some (az blk off)) (P++A++[y]++S).length al,Iq P.length,Iq ((P.length+A.length:Nat):Int),Iq ((P.length+A.length+1:Nat):Int),.func (.func g) #[] lb] w fun e w'=>e=Rw (.tuple #[])/\(∃A1 A2,A=A1++A2/\(∀x∈A1,R x y)/\(∀x∈A2,R y x)/\a_ w' blk off (P++A1++[y]++A2++S))/\w.grownBy w' (some blk):=by
 have HR:=qH<|h;have HO:=qH<|hO;have Ia:=qH<|hw0;have Qh:=qH<|hcmp;have V7:=qH<|hy;have vL:=qH<|hA;have Qd:=qH<|hAp;have HTA:=qH<|hT;have mY:prog.follows .mixedOrders=true:=by kernel_rfl
 obtain⟨n,hn⟩:=aj ((P++A++[y]++S).length);obtain⟨a,ha⟩:=aj P.length;obtain⟨b,hb⟩:=aj (P.length+A.length+1);obtain⟨m,hm⟩:=aj (P.length+A.length);have Bz:b<=n:=by rw[<-hb,<-hn];simp only[bf,fB,iS];omega
 have hma:¬(m:Int)-(a:Int)=1:=by omega
 have hbm:(b:Int)-(m:Int)=1:=by omega
 have zcq:((m:Int)-(a:Int)==1)=false:=by simpa using hma
 have zbz:((b:Int)-(m:Int)==1)=true:=by simpa using hbm
 have zco:m<=a+A.length:=by omega
 have zcp:a+A.length<=m:=by omega
 have Vb:m<b:=by omega
 have HN:=qH<|hn;have HA:=qH<|ha;have HX:Hid ((P++A++[y]++S)[m]?.getD 0=y):=by
  show _=_;have:(P++A).length=m:=by rw[bf];omega
  rw[<-this,cO (P++A),List.getElem?_append_right (ai _),Nat.sub_self];rfl
 have YF:Hid (∀t,t<A.length->(P++A++[y]++S)[a+t]?.getD 0=A[t]?.getD 0):=by intro t ht;rw[ir,if_pos (by grind),ir,if_pos (by grind),ir,if_neg (by omega)];congr 2;omega
 rw[hn]at bH⊢;rw[hb,hm,ha];clear h hO hw0 hcmp hy hA hAp hT hn ha hb hm;go_enter func266,ntmps266;go_wp2;go_loopw[14,15] (fun i j wr=>∃s t:Nat,i=Iq s/\j=Iq t/\a<=s/\s<=t/\t<=m/\Hid (∀k,a+k<s->R (A[k]?.getD 0) y)/\Hid (∀k,t<=a+k->k<A.length->R y (A[k]?.getD 0))/\Hid (a_ wr blk off (P++A++[y]++S))/\Hid (w.grownBy wr (some blk))) (fun i j _=>(intOf j).toNat-(intOf i).toNat);case atStart=>exact⟨a,m,rfl,rfl,ai _,by omega,ai _,fun k hk=>by omega,fun k h1 h2=>by omega,HR,dA _ _⟩
 case round=>
  obtain⟨s,t,rfl,rfl,oW,hst,htb,mX,J8,hrow,fQ⟩:=hrel;by_cases hlt:s<t
  ·have aK:(s:Int)<(t:Int):=by omega
   obtain⟨q,hq⟩:∃q:Nat,(s+t)/2=q:=⟨_,rfl⟩;have ZV:((s:Int)+(t:Int))/2=(q:Int):=by omega
   have tR:s<=q:=by omega
   have wQ:q<t:=by omega
   have XU:(q:Int)<(n:Int):=by omega
   have yZ:(m:Int)<(n:Int):=by omega
   obtain⟨k,hk⟩:∃k,q=a+k:=⟨q-a,by omega⟩;have Cv:k<A.length:=by omega
   obtain⟨x,hx⟩:=aj (A[k]?.getD 0);have HY:=qH<|hx;have HK:=qH<|hk;have Ko:Hid (x∈A):=by show x∈A;rw[<-hx];exact fl Cv
   have Ka:=HN.out;have c0:wr.cell? (az blk (off+q))=some (Iq x):=by rw[(hrow.2 q (by omega)).1,hk,YF k Cv,hx]
   have c1:wr.cell? (az blk (off+m))=some (Iq y):=by rw[(hrow.2 m (by omega)).1,HX.out]
   have lp:Hid (Cw g (#[Iq y,Iq x]++lb) wr.drew fun e W'=>e=Rw (Iq (cf y x))/\Bt wr W'):=by refine(Qh wr.drew (fG (grown_trans Ia fQ)) y V7 x (vL x Ko)).mono ?_;rintro e w2 ⟨rfl,b2⟩;exact⟨rfl,(ag wr.heap.size wr).drew.trans b2⟩
   obtain⟨z,hz⟩:=aj (cf y x);have HZ:=qH<|hz;rw[hz]at lp;clear hq hk hx Ka hz;go_wp2_with fail;go_cut[103]from 92 to 103 (fun v wx=>v=.bool (!decide (z<0))/\Bt wr wx);case first=>
    go_region_with(refine lp.mono ?_;rintro e wq ⟨rfl,bq⟩);all_goals(go_wp2_with fail)
    all_goals go_meet
    all_goals simp_all
   case rest=>
    obtain⟨rfl,bx⟩:=hcut;have gY:=qH<|hrow.below bx;have np:=qH<|grown_trans fQ (grown_below bx);clear hrow fQ c0 c1 lp;by_cases eK:z<0
    ·have OH:Hid (∀k',q<=a+k'->k'<A.length->R y (A[k']?.getD 0)):=by
      intro k' hk' dD;have Ip:=HO.lt y V7 x (vL x Ko) (by rw[HZ.out];exact eK);by_cases e:k'=k;·subst e;rw[HY.out];exact Ip
      ·have oE:k<k':=by have:=HK.out;omega
       have h1:=jW Qd oE dD;rw[HY.out]at h1;exact HO.trans y V7 x (vL x Ko) _ (vL _ (fl dD)) Ip h1
     have hd:(!decide (z<0))=false:=by simp[eK]
     rw[hd];go_wp2;go_roundw;case rel=>grind
     case measure=>simp[intOf];omega
    ·have J':Hid (∀k',a+k'<q+1->R (A[k']?.getD 0) y):=by
      intro k' hk';have zm:=HO.ge x (vL x Ko) y V7 (HTA x Ko) (by rw[HZ.out];exact eK);by_cases e:k'=k;·subst e;rw[HY.out];exact zm
      ·have oE:k'<k:=by have:=HK.out;omega
       have h1:=jW Qd oE Cv;rw[HY.out]at h1;exact HO.trans _ (vL _ (fl (by omega))) x (vL x Ko) y V7 h1 zm
     have hd:(!decide (z<0))=true:=by simp[eK]
     rw[hd];go_wp2;go_roundw;case rel=>exact⟨q+1,t,by go_num,rfl,by omega,by omega,htb,J',J8,gY,np⟩
     case measure=>simp[intOf];omega
  ·have aK:¬(s:Int)<(t:Int):=by omega
   obtain rfl:s=t:=by omega
   obtain⟨c,hc⟩:∃c,s=a+c:=⟨s-a,by omega⟩;have SS:s<=a+c:=by omega
   have Oz:a+c<=s:=by omega
   have hcA:c<=A.length:=by omega
   have Iw:Hid (∀x∈A.take c,R x y):=by intro x hx;obtain⟨k,hk,_,e⟩:=jc hx;rw[<-e];exact mX k (by omega)
   have H6:Hid (∀x∈A.drop c,R y x):=by intro x hx;obtain⟨k,hk,dD,e⟩:=kT hx;rw[<-e];exact J8 k (by omega) dD
   clear hc;go_wp2;go_loopw[17] (fun i wr=>∃e u:Nat,a+e<=u/\u<=a+e/\i=Iq u/\c<=e/\e<=A.length/\Hid (a_ wr blk off (P++A.take e++[y]++A.drop e++S))/\Hid (w.grownBy wr (some blk))) (fun i _=>(intOf i).toNat);case atStart=>exact⟨A.length,m,by omega,by omega,rfl,by omega,ai _,by simp_all,fQ⟩
   case round=>
    obtain⟨e1,u,CY,Tn,rfl,OE,heA,jb,hgr2⟩:=hrel;by_cases qD:c<e1
    ·have tQ:(s:Int)<(u:Int):=by omega
     obtain⟨e,rfl⟩:∃e,e1=e+1:=⟨e1-1,by omega⟩;have zbQ:e<A.length:=by omega
     obtain⟨x,hx⟩:=aj (A[e]?.getD 0);obtain⟨Kl,OX⟩:=jI A e zbQ;rw[hx]at Kl OX;obtain⟨v,hv⟩:∃v,v+1=u:=⟨u-1,by omega⟩;have hvi:(u:Int)-1=(v:Int):=by omega
     have huv:v<u:=by omega
     have xL:(P++A.take e).length=v:=by have:=HA.out;rw[bf,cX];omega
     have HL2:(P++A.take (e+1)++[y]++A.drop (e+1)++S).length=n:=by have:=HN.out;simp only[bf,cX,cW,fB,iS]at*;omega
     have hd:P++A.take (e+1)++[y]++A.drop (e+1)++S=(P++A.take e)++[x]++[y]++(A.drop (e+1)++S):=by rw[Kl];simp[cO]
     have hr1:=jb.out;rw[hd]at hr1 HL2;have hdx:((P++A.take e)++[x]++[y]++(A.drop (e+1)++S))[v]?.getD 0=x:=by rw[<-xL];exact(oJ _ _ _ _).1
     have hdy:((P++A.take e)++[x]++[y]++(A.drop (e+1)++S))[u]?.getD 0=y:=by rw[<-hv,<-xL];exact(oJ _ _ _ _).2
     have c0:wr.cell? (az blk (off+v))=some (Iq x):=by rw[(hr1.2 v (by omega)).1,hdx]
     have f0:=(hr1.2 v (by omega)).2;have c1:wr.cell? (az blk (off+u))=some (Iq y):=by rw[(hr1.2 u (by omega)).1,hdy]
     have f1:=(hr1.2 u (by omega)).2;have BM:Hid (a_ ((wr.setCell (az blk (off+u)) (Iq x)).setCell (az blk (off+v)) (Iq y)) blk off (P++A.take e++[y]++A.drop e++S)):=by have:=lB hr1 u v (by omega) (by omega);rw[hdx,hdy,AL _ _ _ (by omega) (by omega)]at this;have mZ:=sZ (P++A.take e) x y (A.drop (e+1)++S);rw[xL,hv]at mZ;rw[mZ]at this;show a_ _ _ _ _;rw[OX];simpa[cO]using this
     have HG:Hid (w.grownBy ((wr.setCell (az blk (off+u)) (Iq x)).setCell (az blk (off+v)) (Iq y)) (some blk)):=
      grown_trans hgr2 (grown_trans (fd _ _ _ _) (fd _ _ _ _));have hun:(u:Int)<(n:Int):=by omega
     have hvn:(v:Int)<(n:Int):=by omega
     have hwv:IntKind.i64.wrap (v:Int)=(v:Int):=IntWalk.i64_in _ ⟨by omega,by omega⟩;clear hr1 hd hdx hdy Kl OX hx HL2 xL hv jb hgr2;go_wp2;go_big_region;go_wp2;go_roundw;case rel=>exact⟨e,v,by omega,by omega,rfl,by omega,by omega,BM,fG HG⟩
     case measure=>simp[intOf];omega
    ·have tQ:¬(s:Int)<(u:Int):=by omega
     obtain rfl:e1=c:=by omega
     go_wp2;try simp only[Exit.inBlock,Exit.then]
     refine bodyPost_ret (results_none rfl _ _ _) rfl ?_;exact⟨rfl,⟨A.take e1,A.drop e1,(gO _ _).symm,Iw,H6,by simpa[cO]using jb.out⟩,hgr2⟩
theorem QG{cf}{D}{R}(hO:Ord cf D R){X Y:List Int}(hX:X.Pairwise R)(hY:Y.Pairwise R)(hXD:∀x∈X,x∈D)(hYD:∀y∈Y,y∈D)  i j  (hi:i<=X.length)
 (h:0<i->j<Y.length->R (X[i-1]?.getD 0) (Y[j]?.getD 0)):∀x∈X.take i,∀y∈Y.drop j,R x y:=by
 intro x hx y hy;obtain⟨k,hk,dD,rfl⟩:=jc hx;obtain⟨l,hl,QU,rfl⟩:=kT hy;have h0:=h (by omega) (by omega);have h1:R (X[k]?.getD 0) (Y[j]?.getD 0):=by
  by_cases e:k=i-1;·grind
  ·exact hO.trans _ (hXD _ (fl dD)) _ (hXD _ (fl (by omega))) _ (hYD _ (fl (by omega))) (jW hX (by omega) (by omega)) h0
 by_cases e:l=j;·grind
 ·exact hO.trans _ (hXD _ (fl dD)) _ (hYD _ (fl (by omega))) _ (hYD _ (fl QU)) h1 (jW hY (by omega) QU)
theorem F_(A1 A2 B1 B2 M1 M2:List Int)(h1:M1.Perm (A1++B1))(h2:M2.Perm (A2++B2)):(M1++M2).Perm ((A1++A2)++(B1++B2)):=by grind
theorem F9{R}(A1 A2 B1 B2 M1 M2:List Int)(h1:M1.Perm (A1++B1))(h2:M2.Perm (A2++B2))(p1:M1.Pairwise R)(p2:M2.Pairwise R)(hA:(A1++A2).Pairwise R)(hB:(B1++B2).Pairwise R)(c1:∀x∈A1,∀y∈B2,R x y)(c2:∀x∈B1,∀y∈A2,R x y):(M1++M2).Pairwise R:=by grind
def rq(w w':World)(blk off:Nat)(R:Int->Int->Prop)(P A B S:List Int):Prop:=
 (∃M:List Int,M.Perm (A++B)/\M.Pairwise R/\a_ w' blk off (P++M++S))/\w.grownBy w' (some blk)
def Qx(g:Nat)(lb:Array Value)(cf:Int->Int->Int)(D:List Int)(R:Int->Int->Prop)(w0:World)(blk off al:Nat)(N:Nat):Prop:=
 ∀(P A B S:List Int) (w:World) (n a m b:Nat),A.length+B.length<=N->w0.grownBy w (some blk)->a_ w blk off (P++A++B++S)->(∀x∈A,x∈D)->(∀x∈B,x∈D)->A.Pairwise R->B.Pairwise R->(∀x∈A,∀y∈B,x<y)->0<A.length->0<B.length->(P++A++B++S).length=n->n<=1099511627776->P.length=a->P.length+A.length=m->P.length+A.length+B.length=b->
  Cw 266 #[.slice (some (az blk off)) n al,Iq a,Iq m,Iq b,.func (.func g) #[] lb] w fun e w'=>e=Rw (.tuple #[])/\rq w w' blk off R P A B S
theorem E2{A:List Int}(h:A.length=1):∃x,A=[x]:=by
 match A,h with
 |[x],_=>exact⟨x,rfl⟩
theorem LP(g:Nat)(lb:Array Value)(eg:∀args w,(callFunc g args).run prog w=.ok (.enter g args) w)(cf:Int->Int->Int)(D:List Int)(R:Int->Int->Prop)(hO:Ord cf D R)(w0:World)(blk off al:Nat)(hcmp:xV g lb cf D w0 blk)(N:Nat)(IH:Qx g lb cf D R w0 blk off al N)(P A B S:List Int)(w:World)(n a m b:Nat)(hN:A.length+B.length<=N+1)(hw0:w0.grownBy w (some blk))(h:a_ w blk off (P++A++B++S))(hAD:∀x∈A,x∈D)(hBD:∀x∈B,x∈D)(hAP:A.Pairwise R)(hBP:B.Pairwise R)(hlt:∀x∈A,∀y∈B,x<y)(UN:2<=A.length)(Eu:2<=B.length)(hn:(P++A++B++S).length=n)(bH:n<=1099511627776)(ha:P.length=a)(hm:P.length+A.length=m)(hb:P.length+A.length+B.length=b):
 Cw 266 #[.slice (some (az blk off)) n al,Iq a,Iq m,Iq b,.func (.func g) #[] lb] w fun e w'=>e=Rw (.tuple #[])/\rq w w' blk off R P A B S:=by
 have HR:=qH<|h;have HO:=qH<|hO;have Ia:=qH<|hw0;have Qh:=qH<|hcmp;have HI:=qH<|IH;have vL:=qH<|hAD;have iW:=qH<|hBD;have Qd:=qH<|hAP;have Qe:=qH<|hBP;have HT:=qH<|hlt;have mY:prog.follows .mixedOrders=true:=by kernel_rfl
 have Bz:b<=n:=by rw[<-hb,<-hn];simp only[bf];omega
 have zcq:((m:Int)-(a:Int)==1)=false:=by
  have:¬(m:Int)-(a:Int)=1:=by omega
  simpa using this
 have zbz:((b:Int)-(m:Int)==1)=false:=by
  have:¬(b:Int)-(m:Int)=1:=by omega
  simpa using this
 have kI:m<=a+A.length:=by omega
 have hm2:a+A.length<=m:=by omega
 have hb1:b<=m+B.length:=by omega
 have hb2:m+B.length<=b:=by omega
 have HN:=qH<|hn;have HA:=qH<|ha;have YF:Hid (∀t,t<A.length->(P++A++B++S)[a+t]?.getD 0=A[t]?.getD 0):=by intro t ht;rw[ir,if_pos (by grind),ir,if_pos (by grind),ir,if_neg (by omega)];congr 2;omega
 have Iz:Hid (∀t,t<B.length->(P++A++B++S)[m+t]?.getD 0=B[t]?.getD 0):=by intro t ht;rw[ir,if_pos (by grind),ir,if_neg (by grind)];congr 2;simp only[bf];omega
 obtain⟨dZ,XK⟩:∃dZ:Nat,(a+b)/2=dZ:=⟨_,rfl⟩;have zfs:((a:Int)+(b:Int))/2=(dZ:Int):=by omega
 have zfq:a+b<=2*dZ+1:=by omega
 have zfr:2*dZ<=a+b:=by omega
 obtain⟨n',Vd⟩:∃n':Nat,dZ+m=n':=⟨_,rfl⟩;have QX:(dZ:Int)+(m:Int)=(n':Int):=by omega
 obtain⟨p,hp⟩:∃p:Nat,n'-1=p:=⟨_,rfl⟩;have ZS:(n':Int)-1=(p:Int):=by omega
 have HP':Hid (p+1=dZ+m/\n'=dZ+m):=⟨by omega,by omega⟩;have hnb:n'<=2199023255552:=by omega
 have j5:p<=2199023255552:=by omega
 obtain⟨sb,OT⟩:∃sb:Int,(n':Int)-(b:Int)=sb:=⟨_,rfl⟩;have hsbi:sb=(dZ:Int)+(m:Int)-(b:Int):=by omega
 have HSB:=qH<|hsbi;have zcM:-2199023255552<=sb:=by omega
 have zcN:sb<=2199023255552:=by omega
 clear h hO hw0 hcmp IH hAD hBD hAP hBP hlt hn ha hm hb XK Vd hp hsbi;go_enter func266,ntmps266;go_upto_if 140 with fail;go_cut[20,21]from 140 to 146 (fun i j wx=>∃s0 r0:Nat,i=Iq s0/\j=Iq r0/\a<=s0/\s0<=r0/\r0<=m/\r0<=dZ/\dZ+m<=s0+b/\Hid ((dZ+m<=s0+b/\s0+b<=dZ+m/\dZ<=r0)\/(s0=a/\r0=m))/\w=wx);case first=>
  by_cases hc:dZ<m
  ·have hc':(dZ:Int)<(m:Int):=by omega
   go_wp2_with fail;go_meet;exact⟨dZ+m-b,dZ,by grind,rfl,by omega,by omega,by omega,ai _,by omega,Or.inl ⟨by omega,by omega,ai _⟩,rfl⟩
  ·have hc':¬(dZ:Int)<(m:Int):=by omega
   go_wp2_with fail;go_meet;exact⟨a,m,rfl,rfl,ai _,by omega,ai _,by omega,by omega,Or.inr ⟨rfl,rfl⟩,rfl⟩
 case rest=>
  obtain⟨s0,r0,rfl,rfl,has,BH,CU,zfH,zkj,HD,rfl⟩:=hcut;clear OT zcM zcN HSB;go_wp2;go_loopw[20,21] (fun i j wr=>∃s r:Nat,i=Iq s/\j=Iq r/\s0<=s/\s<=r/\r<=r0/\Hid (s0<s->R (A[s-1-a]?.getD 0) (B[dZ-s]?.getD 0))/\Hid (r<r0->R (B[dZ-1-r]?.getD 0) (A[r-a]?.getD 0))/\Hid (a_ wr blk off (P++A++B++S))/\Hid (w.grownBy wr (some blk))) (fun i j _=>(intOf j).toNat-(intOf i).toNat);case atStart=>exact⟨s0,r0,rfl,rfl,ai _,BH,ai _,fun h=>by omega,fun h=>by omega,HR,dA _ _⟩
  case round=>
   obtain⟨s,r,rfl,rfl,Gy,zkk,zh,mX,J8,hrow,fQ⟩:=hrel;by_cases hlt:s<r
   ·have aK:(s:Int)<(r:Int):=by omega
    obtain⟨q,hq⟩:∃q:Nat,(s+r)/2=q:=⟨_,rfl⟩;have ZV:((s:Int)+(r:Int))/2=(q:Int):=by omega
    have tR:s<=q:=by omega
    have wQ:q<r:=by omega
    have XU:(q:Int)<(n:Int):=by omega
    obtain⟨u,hu⟩:∃u:Nat,dZ+m-1-q=u:=⟨_,rfl⟩;have hui:(p:Int)-(q:Int)=(u:Int):=by have:=HP'.out;omega
    have hun:(u:Int)<(n:Int):=by omega
    have HU:Hid (u=m+(dZ-1-q)):=by show _=_;omega
    have hwu:IntKind.i64.wrap (u:Int)=(u:Int):=IntWalk.i64_in _ ⟨by omega,by omega⟩;have Cv:q-a<A.length:=by omega
    have S_:dZ-1-q<B.length:=by omega
    obtain⟨x,hx⟩:=aj (A[q-a]?.getD 0);obtain⟨y,hy⟩:=aj (B[dZ-1-q]?.getD 0);have HXe:=qH<|hx;have HYe:=qH<|hy;have Ko:Hid (x∈A):=by show x∈A;rw[<-hx];exact fl Cv
    have Kr:Hid (y∈B):=by show y∈B;rw[<-hy];exact fl S_
    have Ka:=HN.out;have c0:wr.cell? (az blk (off+q))=some (Iq x):=by rw[(hrow.2 q (by omega)).1,show q=a+(q-a)by omega,YF _ Cv,hx]
    have c1:wr.cell? (az blk (off+u))=some (Iq y):=by rw[(hrow.2 u (by omega)).1,HU.out,Iz _ S_,hy]
    have lp:Hid (Cw g (#[Iq y,Iq x]++lb) wr.drew fun e W'=>e=Rw (Iq (cf y x))/\Bt wr W'):=by refine(Qh wr.drew (fG (grown_trans Ia fQ)) y (iW y Kr) x (vL x Ko)).mono ?_;rintro e w2 ⟨rfl,b2⟩;exact⟨rfl,(ag wr.heap.size wr).drew.trans b2⟩
    obtain⟨z,hz⟩:=aj (cf y x);have HZ:=qH<|hz;rw[hz]at lp;clear hq hx hy Ka hz hu Cv S_;go_wp2_with fail;go_cut[171]from 158 to 171 (fun v wx=>v=.bool (!decide (z<0))/\Bt wr wx);case first=>
     go_region_with(refine lp.mono ?_;rintro e wq ⟨rfl,bq⟩);all_goals(go_wp2_with fail)
     all_goals go_meet
     all_goals exact⟨rfl,bq⟩
    case rest=>
     obtain⟨rfl,bx⟩:=hcut;have gY:=qH<|hrow.below bx;have np:=qH<|grown_trans fQ (grown_below bx);clear hrow fQ c0 c1 lp;by_cases eK:z<0
     ·have OH:Hid (q<r0->R (B[dZ-1-q]?.getD 0) (A[q-a]?.getD 0)):=by intro _;rw[HXe.out,HYe.out];exact HO.lt y (iW y Kr) x (vL x Ko) (by rw[HZ.out];exact eK)
      have hd:(!decide (z<0))=false:=by simp[eK]
      rw[hd];go_wp2;go_roundw;case rel=>exact⟨s,q,rfl,rfl,Gy,by omega,by omega,mX,OH,gY,np⟩
      case measure=>simp[intOf];omega
     ·have J':Hid (s0<q+1->R (A[q+1-1-a]?.getD 0) (B[dZ-(q+1)]?.getD 0)):=by intro _;rw[show q+1-1-a=q-a by omega,show dZ-(q+1)=dZ-1-q by omega,HXe.out,HYe.out];exact HO.ge x (vL x Ko) y (iW y Kr) (HT x Ko y Kr) (by rw[HZ.out];exact eK)
      have hd:(!decide (z<0))=true:=by simp[eK]
      rw[hd];go_wp2;go_roundw;case rel=>exact⟨q+1,r,by go_num,rfl,by omega,by omega,zh,J',J8,gY,np⟩
      case measure=>simp[intOf];omega
   ·have aK:¬(s:Int)<(r:Int):=by omega
    obtain rfl:s=r:=by omega
    obtain⟨e,he⟩:∃e:Nat,dZ+m-s=e:=⟨_,rfl⟩;have hei:(n':Int)-(s:Int)=(e:Int):=by have:=HP'.out;omega
    have US:e+s<=dZ+m:=by omega
    have SX:dZ+m<=e+s:=by omega
    obtain⟨A1,hA1⟩:=aj (A.take (s-a));obtain⟨A2,Et⟩:=aj (A.drop (s-a));obtain⟨B1,jo⟩:=aj (B.take (dZ-s));obtain⟨B2,lU⟩:=aj (B.drop (dZ-s));have Wa:Hid (A1.length=s-a):=by show _=_;rw[<-hA1,cX];omega
    have UD:Hid (A2.length=m-s):=by show _=_;rw[<-Et,cW];omega
    have UE:Hid (B1.length=dZ-s):=by show _=_;rw[<-jo,cX];omega
    have Y7:Hid (B2.length=b-e):=by show _=_;rw[<-lU,cW];omega
    have EA:Hid (A=A1++A2):=by show _=_;rw[<-hA1,<-Et,gO]
    have EB:Hid (B=B1++B2):=by show _=_;rw[<-jo,<-lU,gO]
    have X1:Hid (∀x∈A1,∀y∈B2,R x y):=by
     show∀x∈A1,∀y∈B2,R x y;rw[<-hA1,<-lU];refine QG HO Qd Qe vL iW _ _ (by omega) fun h0 h1=>?_;have hss:s0<s:=by rcases HD.out with⟨d1,d2,d3⟩|⟨d1,d2⟩<;>omega
     have:=mX hss;rwa[show s-1-a=s-a-1 by omega]at this
    have X2:Hid (∀x∈B1,∀y∈A2,R x y):=by
     show∀x∈B1,∀y∈A2,R x y;rw[<-jo,<-Et];refine QG HO Qe Qd iW vL _ _ (by omega) fun h0 h1=>?_;have hss:s<r0:=by rcases HD.out with⟨d1,d2,d3⟩|⟨d1,d2⟩<;>omega
     have:=J8 hss;rwa[show dZ-1-s=dZ-s-1 by omega]at this
    clear hA1 Et jo lU mX J8 he YF Iz Qh HD;have PA:Hid (A1.Pairwise R/\A2.Pairwise R/\B1.Pairwise R/\B2.Pairwise R):=by have h1:=Qd.out;rw[EA.out]at h1;have h2:=Qe.out;rw[EB.out]at h2;exact⟨(jM.1 h1).1,(jM.1 h1).2.1,(jM.1 h2).1,(jM.1 h2).2.1⟩
    have MA:Hid ((∀x∈A1,x∈A)/\(∀x∈A2,x∈A)/\(∀x∈B1,x∈B)/\(∀x∈B2,x∈B)):=by refine⟨?_,?_,?_,?_⟩<;>intro x hx<;>first|(rw[EA.out];exact lj.2 (Or.inl hx))|(rw[EA.out];exact lj.2 (Or.inr hx))|(rw[EB.out];exact lj.2 (Or.inl hx))|(rw[EB.out];exact lj.2 (Or.inr hx))
    have HR0:Hid (a_ wr blk off (P++A1++A2++B1++(B2++S))):=by have:=hrow.out;rw[EA.out,EB.out]at this;show a_ _ _ _ _;simpa[cO]using this
    have YT:Hid (P.length+A1.length+A2.length+B1.length+B2.length+S.length=n):=by have:=HN.out;rw[EA.out,EB.out]at this;show _=_;simp only[bf]at this;omega
    have lp:Hid (s<m->s<dZ->Cw 274 #[.slice (some (az blk off)) n al,Iq s,Iq m,Iq e,.func (.func g) #[] lb] wr fun e w'=>e=Rw (.tuple #[])/\a_ w' blk off (P++A1++B1++(A2++B2++S))/\w.grownBy w' (some blk)):=by
     intro h1 h2;have:=Wa.out;have:=UD.out;have:=UE.out;have:=HA.out;have:=YT.out;have e0:(P++A1++A2++B1++(B2++S)).length=n:=by simp only[bf];omega
     have e1:(P++A1).length=s:=by simp only[bf];omega
     have e2:(P++A1).length+A2.length=m:=by simp only[bf];omega
     have e3:(P++A1).length+A2.length+B1.length=e:=by simp only[bf];omega
     have c:=DC (P++A1) A2 B1 (B2++S) blk off al (.func (.func g) #[] lb) wr HR0 (by omega) (by omega) (by omega);rw[e3,e2,e1,e0]at c;refine c.mono ?_;rintro ex w' ⟨rfl,r1,g1⟩;exact⟨rfl,by simpa[cO]using r1,grown_trans fQ g1⟩
    have HC2:Hid (∀w2,a_ w2 blk off (P++A1++B1++(A2++B2++S))->w.grownBy w2 (some blk)->a<s->s<dZ->Cw 266 #[.slice (some (az blk off)) n al,Iq a,Iq s,Iq dZ,.func (.func g) #[] lb] w2 fun e w'=>e=Rw (.tuple #[])/\(∃M1:List Int,M1.Perm (A1++B1)/\M1.Pairwise R/\a_ w' blk off (P++M1++(A2++B2++S)))/\w.grownBy w' (some blk)):=by intro w2 hr2 lN h1 h2;have:=Wa.out;have:=UD.out;have:=UE.out;have:=Y7.out;have:=HA.out;have:=YT.out;refine(HI P A1 B1 (A2++B2++S) w2 n a s dZ (by omega) (grown_trans Ia lN) hr2 (fun x hx=>vL x (MA.1 x hx)) (fun x hx=>iW x (MA.2.2.1 x hx)) PA.1 PA.2.2.1 (fun x hx y hy=>HT x (MA.1 x hx) y (MA.2.2.1 y hy)) (by omega) (by omega) (by simp only[bf];omega) bH HA (by omega) (by omega)).mono ?_;rintro ex w' ⟨rfl,m1,g1⟩;exact⟨rfl,m1,grown_trans lN g1⟩
    have HC3:Hid (∀M1:List Int,M1.Perm (A1++B1)->∀w2,a_ w2 blk off (P++M1++(A2++B2++S))->w.grownBy w2 (some blk)->s<m->e<b->Cw 266 #[.slice (some (az blk off)) n al,Iq dZ,Iq e,Iq b,.func (.func g) #[] lb] w2 fun e w'=>e=Rw (.tuple #[])/\(∃M2:List Int,M2.Perm (A2++B2)/\M2.Pairwise R/\a_ w' blk off (P++M1++M2++S))/\w.grownBy w' (some blk)):=by
     intro M1 hM1 w2 hr2 lN h1 h2;have:=Wa.out;have:=UD.out;have:=UE.out;have:=Y7.out;have:=HA.out;have:=YT.out;have hl:=hM1.length_eq;rw[bf]at hl;have hr3:a_ w2 blk off ((P++M1)++A2++B2++S):=by simpa[cO]using hr2
     refine(HI (P++M1) A2 B2 S w2 n dZ e b (by omega) (grown_trans Ia lN) hr3 (fun x hx=>vL x (MA.2.1 x hx)) (fun x hx=>iW x (MA.2.2.2 x hx)) PA.2.1 PA.2.2.2 (fun x hx y hy=>HT x (MA.2.1 x hx) y (MA.2.2.2 y hy)) (by omega) (by omega) (by simp only[bf];omega) bH (by simp only[bf];omega) (by simp only[bf];omega) (by simp only[bf];omega)).mono ?_;rintro ex w' ⟨rfl,m1,g1⟩;exact⟨rfl,m1,grown_trans lN g1⟩
    have HEnd:Hid (∀M1 M2:List Int,∀w',M1.Perm (A1++B1)->M1.Pairwise R->M2.Perm (A2++B2)->M2.Pairwise R->a_ w' blk off (P++M1++M2++S)->w.grownBy w' (some blk)->rq w w' blk off R P A B S):=by
     intro M1 M2 w' h1 p1 h2 p2 hr hg;refine⟨⟨M1++M2,?_,?_,by simpa[cO]using hr⟩,hg⟩;·rw[EA.out,EB.out];exact F_ _ _ _ _ _ _ h1 h2
     ·have h3:=Qd.out;rw[EA.out]at h3;have h4:=Qe.out;rw[EB.out]at h4;exact F9 A1 A2 B1 B2 M1 M2 h1 h2 p1 p2 h3 h4 X1 X2
    have uL:Hid (m<=s\/dZ<=s->a_ wr blk off (P++A1++B1++(A2++B2++S))):=by
     intro hc;have:=UD.out;have:=UE.out;have h0:=HR0.out;rcases hc with hc|hc;·rw[lk (show A2.length=0 by omega)]at h0⊢;simpa[cO]using h0
     ·rw[lk (show B1.length=0 by omega)]at h0⊢;simpa[cO]using h0
    have zbf:Hid (s<=a\/dZ<=s->(A1++B1).Pairwise R):=by
     intro hc;have:=Wa.out;have:=UE.out;rcases hc with hc|hc;·rw[lk (show A1.length=0 by omega)];exact PA.2.2.1
     ·rw[lk (show B1.length=0 by omega),j_];exact PA.1
    have zbg:Hid (m<=s\/b<=e->(A2++B2).Pairwise R):=by
     intro hc;have:=UD.out;have:=Y7.out;rcases hc with hc|hc;·rw[lk (show A2.length=0 by omega)];exact PA.2.2.2
     ·rw[lk (show B2.length=0 by omega),j_];exact PA.2.1
    have Heb:e<=b:=by omega
    clear hrow HR0 EA EB X1 X2 PA MA YT Wa UD UE Y7 HI Qd Qe vL iW HT HO HN;have HK1:Hid (∀w2,a_ w2 blk off (P++A1++B1++(A2++B2++S))->(s<=a\/dZ<=s)->∃M1:List Int,M1.Perm (A1++B1)/\M1.Pairwise R/\a_ w2 blk off (P++M1++(A2++B2++S))):=fun w2 h hc=>⟨A1++B1,Mk _,zbf hc,by grind⟩;have km:Hid (∀M1 w3,a_ w3 blk off (P++M1++(A2++B2++S))->(m<=s\/b<=e)->∃M2:List Int,M2.Perm (A2++B2)/\M2.Pairwise R/\a_ w3 blk off (P++M1++M2++S)):=fun M1 w3 h hc=>⟨A2++B2,Mk _,zbg hc,by simpa[cO]using h⟩;by_cases i1:(s:Int)<(m:Int)<;>by_cases i2:(m:Int)<(e:Int)<;>by_cases i3:(a:Int)<(s:Int)<;>by_cases i4:(s:Int)<(dZ:Int)<;>by_cases i5:(dZ:Int)<(e:Int)<;>by_cases i6:(e:Int)<(b:Int)<;>try(exfalso;omega)
    all_goals
     first
      |(have h0:=lp (by omega) (by omega);go_wp2_with fail;refine am h0 ?_;clear h0;rintro ex w2 ⟨rfl,r2,g2⟩)
      |(have r2:=uL (by omega);have g2:=fQ.out)
     have HR2:=qH<|r2;have fU:=qH<|g2;clear r2 g2 lp uL;first
      |(have h0:=HC2 _ HR2 fU (by omega) (by omega);go_wp2_with fail;refine am h0 ?_;clear h0;rintro ex w3 ⟨rfl,⟨M1,q1,q2,r3⟩,g3⟩)
      |(obtain⟨M1,q1,q2,r3⟩:=HK1 _ HR2 (by omega);have g3:=fU.out)
     have HQ1:=qH<|q1;have VR:=qH<|q2;have HR3:=qH<|r3;have BK:=qH<|g3;clear q1 q2 r3 g3 HR2 fU HC2 HK1;first
      |(have h0:=HC3 M1 HQ1 _ HR3 BK (by omega) (by omega);go_wp2_with fail;refine am h0 ?_;clear h0;rintro ex w4 ⟨rfl,⟨M2,q3,q4,r4⟩,g4⟩)
      |(obtain⟨M2,q3,q4,r4⟩:=km M1 _ HR3 (by omega);have g4:=BK.out)
     have HZ:=qH<|HEnd M1 M2 _ HQ1 VR q3 q4 r4 g4;clear q3 q4 r4 g4 HEnd HC3 km;go_wp2;go_end0;exact⟨rfl,HZ⟩
theorem E5(g:Nat)  lb  (eg:∀args w,(callFunc g args).run prog w=.ok (.enter g args) w)  cf   D   R  (hO:Ord cf D R)  w0   blk off al  (hcmp:xV g lb cf D w0 blk):∀N,Qx g lb cf D R w0 blk off al N
 |0=>fun P A B S w n a m b hN hw0 h hAD hBD hAP hBP hlt UN Eu hn bH ha hm hb=>by omega
 |N+1=>fun P A B S w n a m b hN hw0 h hAD hBD hAP hBP hlt UN Eu hn bH ha hm hb=>by
  by_cases h1:A.length=1;·obtain⟨x,rfl⟩:=E2 h1;have c:=LQ g lb eg cf D R hO w0 P x B S blk off al hcmp w hw0 h (hAD x (by simp)) hBD hBP (fun y hy=>hlt x (by simp) y hy) Eu (by omega);rw[hn,ha,show a+1=m by omega,show m+B.length=b by omega]at c;refine c.mono ?_;rintro ex w' ⟨rfl,⟨B1,B2,rfl,x1,x2,r⟩,g1⟩;refine⟨rfl,⟨B1++[x]++B2,?_,?_,by grind⟩,g1⟩;all_goals grind
  ·by_cases h2:B.length=1;·obtain⟨y,rfl⟩:=E2 h2;have c:=Hv g lb eg cf D R hO w0 P A y S blk off al hcmp w hw0 h (hBD y (by simp)) hAD hAP (fun x hx=>hlt x hx y (by simp)) (by omega) (by omega);rw[hn,show P.length+A.length+1=b by omega,hm,ha]at c;refine c.mono ?_;rintro ex w' ⟨rfl,⟨A1,A2,rfl,x1,x2,r⟩,g1⟩;refine⟨rfl,⟨A1++[y]++A2,?_,?_,by grind⟩,g1⟩;all_goals grind
   ·exact LP g lb eg cf D R hO w0 blk off al hcmp N (E5 g lb eg cf D R hO w0 blk off al hcmp N) P A B S w n a m b hN hw0 h hAD hBD hAP hBP hlt (by omega) (by omega) hn bH ha hm hb
