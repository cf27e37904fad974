import Derived.Test.YtmbefonnkkhfgaaGreatDoorQ00
import Derived.Deep.RegionWith
import Derived.Deep.Cut
import Derived.Deep.CutRange
import Derived.Test.YtmbefonnkkhfgaaGreatDoorQ09
set_option linter.unusedVariables false
set_option maxRecDepth 100000
set_option maxHeartbeats 16000000
namespace Go.Proofs.YtmbefonnkkhfgaaGreatDoor
section
open Go.RowKit Go.Proofs.Tryz
def CmpOk(g:Nat)(lb:Array Value)(cf:Int->Int->Int)(D:List Int)(w0:World)(blk:Nat):Prop:=
 ∀W,w0.grownBy W (some blk)->∀x∈D,∀y∈D,Calls prog g (#[Iq x,Iq y]++lb) W fun e W'=>e=.returned (Iq (cf x y))∧Below W.heap.size W W'
structure Ord(cf:Int->Int->Int)(D:List Int)(R:Int->Int->Prop):Prop where
 lt:∀x∈D,∀y∈D,cf x y<0->R x y
 ge:∀x∈D,∀y∈D,x<y->¬cf y x<0->R x y
 trans:∀x∈D,∀y∈D,∀z∈D,R x y->R y z->R x z
 bd:∀x∈D,∀y∈D,-1≤cf x y∧cf x y≤1
theorem pair_at{R:Int->Int->Prop}{B:List Int}(h:B.Pairwise R){i j:Nat}(hij:i<j)(hj:j<B.length):R (B[i]?.getD 0) (B[j]?.getD 0):=by rw[List.getElem?_eq_getElem hj,List.getElem?_eq_getElem (by omega)];exact List.pairwise_iff_getElem.1 h i j (by omega) hj hij
theorem mem_at{B:List Int}{i:Nat}(hi:i<B.length):B[i]?.getD 0∈B:=by rw[List.getElem?_eq_getElem hi];exact List.getElem_mem hi
theorem mem_take_at{B:List Int}{c:Nat}{y:Int}(h:y∈B.take c):∃k,k<c∧k<B.length∧B[k]?.getD 0=y:=by obtain⟨k,hk,e⟩:=List.mem_iff_getElem.1 h;rw[List.length_take]at hk;refine⟨k,by omega,by omega,?_⟩;rw[List.getElem_take]at e;rw[List.getElem?_eq_getElem (by omega)];exact e
theorem mem_drop_at{B:List Int}{c:Nat}{y:Int}(h:y∈B.drop c):∃k,c≤k∧k<B.length∧B[k]?.getD 0=y:=by obtain⟨k,hk,e⟩:=List.mem_iff_getElem.1 h;rw[List.length_drop]at hk;refine⟨c+k,by omega,by omega,?_⟩;rw[List.getElem_drop]at e;rw[List.getElem?_eq_getElem (by omega)];exact e
theorem at_two(X:List Int)(p q:Int)(Y:List Int):(X++[p]++[q]++Y)[X.length]?.getD 0=p∧(X++[p]++[q]++Y)[X.length+1]?.getD 0=q:=by
 simp only[List.append_assoc];refine⟨?_,?_⟩;·rw[List.getElem?_append_right (Nat.le_refl _),Nat.sub_self];rfl
 ·rw[List.getElem?_append_right (by omega),show X.length+1-X.length=1 by omega];rfl
theorem swp_next(X:List Int)(p q:Int)(Y:List Int):swp (X++[p]++[q]++Y) X.length (X.length+1)=X++[q]++[p]++Y:=by have:=swpN_list X [p] [] [q] Y rfl;simp only[List.append_nil,List.length_cons,List.length_nil,Nat.add_zero,Nat.zero_add]at this;exact this
theorem take_next(B:List Int)(e:Nat)(h:e<B.length):B.take (e+1)=B.take e++[B[e]?.getD 0]∧B.drop e=[B[e]?.getD 0]++B.drop (e+1):=by rw[List.getElem?_eq_getElem h];exact⟨List.take_succ_eq_append_getElem h,by rw[List.drop_eq_getElem_cons h];rfl⟩
theorem sym_left(g:Nat)(lb:Array Value)(eg:∀args w,(callFunc g args).run prog w=.ok (.enter g args) w)(cf:Int->Int->Int)(D:List Int)(R:Int->Int->Prop)(hO:Ord cf D R)(w0:World)(P:List Int)(x:Int)(B S:List Int)(blk off cap:Nat)(hcmp:CmpOk g lb cf D w0 blk)(w:World)(hw0:w0.grownBy w (some blk))(h:IRow w blk off (P++[x]++B++S))
 (hx:x∈D) (hB:∀y∈B,y∈D) (hBp:B.Pairwise R) (hT:∀y∈B,x<y) (hB0:0<B.length) (hlen:(P++[x]++B++S).length≤1099511627776):
 Calls prog 216 #[.slice (some ⟨blk,off,none⟩) (P++[x]++B++S).length cap,Iq P.length,Iq ((P.length+1:Nat):Int),Iq ((P.length+1+B.length:Nat):Int),.func (.func g) #[] lb] w fun e w'=>e=.returned (.tuple #[])∧(∃B1 B2,B=B1++B2∧(∀y∈B1,R y x)∧(∀y∈B2,R x y)∧IRow w' blk off (P++B1++[x]++B2++S))∧w.grownBy w' (some blk):=by
 have HR:=qH<|h;have HO:=qH<|hO;have HW0:=qH<|hw0;have HCM:=qH<|hcmp;have HXD:=qH<|hx;have HBD:=qH<|hB;have HBP:=qH<|hBp;have HTB:=qH<|hT;obtain⟨n,hn⟩:=nmd ((P++[x]++B++S).length);obtain⟨a,ha⟩:=nmd P.length;obtain⟨b,hb⟩:=nmd (P.length+1+B.length);obtain⟨m,hm⟩:=nmd (P.length+1);have hbn:b≤n:=by rw[<-hb,<-hn];simp only[List.length_append,List.length_cons,List.length_nil];omega
 have hma:(m:Int)-(a:Int)=1:=by omega
 have hbm1:b≤m+B.length:=by omega
 have hbm2:m+B.length≤b:=by omega
 have hma1:m≤a+1:=by omega
 have hma2:a+1≤m:=by omega
 have HN:=qH<|hn;have HA:=qH<|ha;have HX:Hid ((P++[x]++B++S)[a]?.getD 0=x):=by show _=_;rw[<-ha];simp[List.append_assoc]
 have HBt:Hid (∀t,t<B.length->(P++[x]++B++S)[m+t]?.getD 0=B[t]?.getD 0):=by intro t ht;rw[app_at,if_pos (by simp only[List.length_append,List.length_cons,List.length_nil];omega),app_at,if_neg (by simp only[List.length_append,List.length_cons,List.length_nil];omega)];congr 2;simp only[List.length_append,List.length_cons,List.length_nil];omega
 rw[hn]at hlen⊢;rw[hb,hm,ha];clear h hO hw0 hcmp hx hB hBp hT hn ha hb hm;go_enter func216,ntmps216;go_wp2;go_loopw[10,11] (fun i j wr=>∃s t:Nat,i=Iq s∧j=Iq t∧m≤s∧s≤t∧t≤b∧Hid (∀k,m+k<s->R (B[k]?.getD 0) x)∧Hid (∀k,t≤m+k->k<B.length->R x (B[k]?.getD 0))∧Hid (IRow wr blk off (P++[x]++B++S))∧Hid (w.grownBy wr (some blk))) (fun i j _=>(intOf j).toNat-(intOf i).toNat);case atStart=>exact⟨m,b,rfl,rfl,Nat.le_refl _,by omega,Nat.le_refl _,fun k hk=>by omega,fun k h1 h2=>by omega,HR,grown_refl _ _⟩
 case round=>
  obtain⟨s,t,rfl,rfl,hms,hst,htb,hlo,hhi,hrow,hgr⟩:=hrel;by_cases hlt:s<t
  ·have hlt':(s:Int)<(t:Int):=by omega
   obtain⟨q,hq⟩:∃q:Nat,(s+t)/2=q:=⟨_,rfl⟩;have hqi:((s:Int)+(t:Int))/2=(q:Int):=by omega
   have hq1:s≤q:=by omega
   have hq2:q<t:=by omega
   have hqn:(q:Int)<(n:Int):=by omega
   have han:(a:Int)<(n:Int):=by omega
   obtain⟨k,hk⟩:∃k,q=m+k:=⟨q-m,by omega⟩;have hkB:k<B.length:=by omega
   obtain⟨y,hy⟩:=nmd (B[k]?.getD 0);have HY:=qH<|hy;have HK:=qH<|hk;have hyB:Hid (y∈B):=by show y∈B;rw[<-hy];exact mem_at hkB
   have hlr:=HN.out;have c0:wr.cell? ⟨blk,off+q,none⟩=some (Iq y):=by rw[(hrow.2 q (by omega)).1,hk,HBt k hkB,hy]
   have c1:wr.cell? ⟨blk,off+a,none⟩=some (Iq x):=by rw[(hrow.2 a (by omega)).1,HX.out]
   have HC1:Hid (Calls prog g (#[Iq y,Iq x]++lb) wr.drew fun e W'=>e=.returned (Iq (cf y x))∧Below wr.heap.size wr W'):=by refine(HCM wr.drew (grown_drew (grown_trans HW0 hgr)) y (HBD y hyB) x HXD).mono ?_;rintro e w2 ⟨rfl,b2⟩;exact⟨rfl,(Below.refl wr.heap.size wr).drew.trans b2⟩
   obtain⟨z,hz⟩:=nmd (cf y x);have HZ:=qH<|hz;rw[hz]at HC1;clear hq hk hy hlr hz;go_wp2_with fail;go_cut[50]from 40 to 50 (fun v wx=>v=.bool (decide (z<0))∧Below wr.heap.size wr wx);case first=>
    go_region_with(refine HC1.mono ?_;rintro e wq ⟨rfl,bq⟩);all_goals(go_wp2_with fail)
    all_goals go_meet
    all_goals exact⟨rfl,bq⟩
   case rest=>
    obtain⟨rfl,bx⟩:=hcut;have hrow':=qH<|hrow.below bx;have hgr':=qH<|grown_trans hgr (grown_below bx);clear hrow hgr c0 c1 HC1;by_cases hz0:z<0
    ·have hlo':Hid (∀k',m+k'<q+1->R (B[k']?.getD 0) x):=by
      intro k' hk';have hyx:=HO.lt y (HBD y hyB) x HXD (by rw[HZ.out];exact hz0);by_cases e:k'=k;·subst e;rw[HY.out];exact hyx
      ·have hkk:k'<k:=by have:=HK.out;omega
       have h1:=pair_at HBP hkk hkB;rw[HY.out]at h1;exact HO.trans _ (HBD _ (mem_at (by omega))) y (HBD y hyB) x HXD h1 hyx
     go_wp2;go_roundw;case rel=>exact⟨q+1,t,by go_num,rfl,by omega,by omega,htb,hlo',hhi,hrow',hgr'⟩
     case measure=>simp[intOf];omega
    ·have hhi':Hid (∀k',q≤m+k'->k'<B.length->R x (B[k']?.getD 0)):=by
      intro k' hk' hkl;have hxy:=HO.ge x HXD y (HBD y hyB) (HTB y hyB) (by rw[HZ.out];exact hz0);by_cases e:k'=k;·subst e;rw[HY.out];exact hxy
      ·have hkk:k<k':=by have:=HK.out;omega
       have h1:=pair_at HBP hkk hkl;rw[HY.out]at h1;exact HO.trans x HXD y (HBD y hyB) _ (HBD _ (mem_at hkl)) hxy h1
     go_wp2;go_roundw;case rel=>exact⟨s,q,rfl,rfl,hms,by omega,by omega,hlo,hhi',hrow',hgr'⟩
     case measure=>simp[intOf];omega
  ·have hlt':¬(s:Int)<(t:Int):=by omega
   obtain rfl:s=t:=by omega
   obtain⟨c,hc⟩:∃c,s=m+c:=⟨s-m,by omega⟩;have HCc:=qH<|hc;have hc1:s≤m+c:=by omega
   have hc2:m+c≤s:=by omega
   have hcB:c≤B.length:=by omega
   have HB1:Hid (∀y∈B.take c,R y x):=by intro y hy;obtain⟨k,hk,_,e⟩:=mem_take_at hy;rw[<-e];exact hlo k (by omega)
   have HB2:Hid (∀y∈B.drop c,R x y):=by intro y hy;obtain⟨k,hk,hkl,e⟩:=mem_drop_at hy;rw[<-e];exact hhi k (by omega) hkl
   clear hc;go_wp2;go_loopw[13] (fun i wr=>∃e u:Nat,a+e≤u∧u≤a+e∧i=Iq u∧e≤c∧Hid (IRow wr blk off (P++B.take e++[x]++B.drop e++S))∧Hid (w.grownBy wr (some blk))) (fun i _=>s-(intOf i).toNat);case atStart=>exact⟨0,a,by omega,by omega,rfl,Nat.zero_le _,by have:=hrow.out;show IRow _ _ _ _;simpa using this,hgr⟩
   case round=>
    obtain⟨e,u,hu1,hu2,rfl,hec,hrow2,hgr2⟩:=hrel;by_cases hlt2:e<c
    ·have hlt3:(u:Int)<(s:Int)-1:=by omega
     have heB:e<B.length:=by omega
     obtain⟨y,hy⟩:=nmd (B[e]?.getD 0);obtain⟨ht1,ht2⟩:=take_next B e heB;rw[hy]at ht1 ht2;obtain⟨v,hv⟩:=nmd (u+1);have hvi:(u:Int)+1=(v:Int):=by omega
     have huv:u<v:=by omega
     have hXl:(P++B.take e).length=u:=by have:=HA.out;rw[List.length_append,List.length_take];omega
     have HL2:(P++B.take e++[x]++B.drop e++S).length=n:=by have:=HN.out;simp only[List.length_append,List.length_take,List.length_drop,List.length_cons,List.length_nil]at*;omega
     have hd:P++B.take e++[x]++B.drop e++S=(P++B.take e)++[x]++[y]++(B.drop (e+1)++S):=by rw[ht2];simp[List.append_assoc]
     have hr1:=hrow2.out;rw[hd]at hr1 HL2;have hdx:((P++B.take e)++[x]++[y]++(B.drop (e+1)++S))[u]?.getD 0=x:=by rw[<-hXl];exact(at_two _ _ _ _).1
     have hdy:((P++B.take e)++[x]++[y]++(B.drop (e+1)++S))[v]?.getD 0=y:=by rw[<-hv,<-hXl];exact(at_two _ _ _ _).2
     have c0:wr.cell? ⟨blk,off+u,none⟩=some (Iq x):=by rw[(hr1.2 u (by omega)).1,hdx]
     have f0:=(hr1.2 u (by omega)).2;have c1:wr.cell? ⟨blk,off+v,none⟩=some (Iq y):=by rw[(hr1.2 v (by omega)).1,hdy]
     have f1:=(hr1.2 v (by omega)).2;have HNew:Hid (IRow ((wr.setCell ⟨blk,off+u,none⟩ (Iq y)).setCell ⟨blk,off+v,none⟩ (Iq x)) blk off (P++B.take (e+1)++[x]++B.drop (e+1)++S)):=by have:=irow_set2 hr1 u v (by omega) (by omega);rw[hdx,hdy]at this;have hs2:=swp_next (P++B.take e) x y (B.drop (e+1)++S);rw[hXl,hv]at hs2;rw[hs2]at this;show IRow _ _ _ _;rw[ht1];simpa[List.append_assoc]using this
     have HG:Hid (w.grownBy ((wr.setCell ⟨blk,off+u,none⟩ (Iq y)).setCell ⟨blk,off+v,none⟩ (Iq x)) (some blk)):=
      grown_trans hgr2 (grown_trans (grown_set _ _ _ _) (grown_set _ _ _ _));have hun:(u:Int)<(n:Int):=by omega
     have hvn:(v:Int)<(n:Int):=by omega
     have hwv:IntKind.i64.wrap (v:Int)=(v:Int):=IntWalk.i64_in _ ⟨by omega,by omega⟩;clear hr1 hd hdx hdy ht1 ht2 hy HL2 hXl hv hrow2 hgr2;go_wp2;go_big_region;go_wp2;go_roundw;case rel=>exact⟨e+1,v,by omega,by omega,rfl,by omega,HNew,grown_drew HG⟩
     case measure=>simp[intOf];omega
    ·have hlt3:¬(u:Int)<(s:Int)-1:=by omega
     obtain rfl:e=c:=by omega
     go_wp2;try simp only[Exit.inBlock,Exit.then]
     refine bodyPost_ret (results_none rfl _ _ _) rfl ?_;exact⟨rfl,⟨B.take e,B.drop e,(List.take_append_drop _ _).symm,HB1,HB2,by simpa[List.append_assoc]using hrow2.out⟩,hgr2⟩
end
section
open Go.RowKit Go.Proofs.Tryz
theorem swp_comm(d:List Int)(i j:Nat)(hi:i<d.length)(hj:j<d.length):swp d i j=swp d j i:=by
 refine list_same (by rw[swp_length,swp_length]) fun t ht=>?_;rw[swp_at d i j t hi hj,swp_at d j i t hj hi];by_cases h1:t=j
 ·by_cases h2:t=i;·subst h1;subst h2;simp
  ·rw[if_pos h1,if_neg h2,if_pos h1]
 ·rw[if_neg h1];by_cases h2:t=i;·rw[if_pos h2,if_pos h2]
  ·rw[if_neg h2,if_neg h2,if_neg h1]
theorem sym_right(g:Nat)(lb:Array Value)(eg:∀args w,(callFunc g args).run prog w=.ok (.enter g args) w)(cf:Int->Int->Int)(D:List Int)(R:Int->Int->Prop)(hO:Ord cf D R)(w0:World)(P A:List Int)(y:Int)(S:List Int)(blk off cap:Nat)(hcmp:CmpOk g lb cf D w0 blk)(w:World)(hw0:w0.grownBy w (some blk))(h:IRow w blk off (P++A++[y]++S))
 (hy:y∈D) (hA:∀x∈A,x∈D) (hAp:A.Pairwise R) (hT:∀x∈A,x<y) (hA0:2≤A.length) (hlen:(P++A++[y]++S).length≤1099511627776):
 Calls prog 216 #[.slice (some ⟨blk,off,none⟩) (P++A++[y]++S).length cap,Iq P.length,Iq ((P.length+A.length:Nat):Int),Iq ((P.length+A.length+1:Nat):Int),.func (.func g) #[] lb] w fun e w'=>e=.returned (.tuple #[])∧(∃A1 A2,A=A1++A2∧(∀x∈A1,R x y)∧(∀x∈A2,R y x)∧IRow w' blk off (P++A1++[y]++A2++S))∧w.grownBy w' (some blk):=by
 have HR:=qH<|h;have HO:=qH<|hO;have HW0:=qH<|hw0;have HCM:=qH<|hcmp;have HYD:=qH<|hy;have HAD:=qH<|hA;have HAP:=qH<|hAp;have HTA:=qH<|hT;have hmx:prog.follows .mixedOrders=true:=by kernel_rfl
 obtain⟨n,hn⟩:=nmd ((P++A++[y]++S).length);obtain⟨a,ha⟩:=nmd P.length;obtain⟨b,hb⟩:=nmd (P.length+A.length+1);obtain⟨m,hm⟩:=nmd (P.length+A.length);have hbn:b≤n:=by rw[<-hb,<-hn];simp only[List.length_append,List.length_cons,List.length_nil];omega
 have hma:¬(m:Int)-(a:Int)=1:=by omega
 have hbm:(b:Int)-(m:Int)=1:=by omega
 have hmaB:((m:Int)-(a:Int)==1)=false:=by simpa using hma
 have hbmB:((b:Int)-(m:Int)==1)=true:=by simpa using hbm
 have hma1:m≤a+A.length:=by omega
 have hma2:a+A.length≤m:=by omega
 have hmb:m<b:=by omega
 have HN:=qH<|hn;have HA:=qH<|ha;have HX:Hid ((P++A++[y]++S)[m]?.getD 0=y):=by
  show _=_;have:(P++A).length=m:=by rw[List.length_append];omega
  rw[<-this,List.append_assoc (P++A),List.getElem?_append_right (Nat.le_refl _),Nat.sub_self];rfl
 have HAt:Hid (∀t,t<A.length->(P++A++[y]++S)[a+t]?.getD 0=A[t]?.getD 0):=by intro t ht;rw[app_at,if_pos (by simp only[List.length_append,List.length_cons,List.length_nil];omega),app_at,if_pos (by simp only[List.length_append];omega),app_at,if_neg (by omega)];congr 2;omega
 rw[hn]at hlen⊢;rw[hb,hm,ha];clear h hO hw0 hcmp hy hA hAp hT hn ha hb hm;go_enter func216,ntmps216;go_wp2;go_loopw[14,15] (fun i j wr=>∃s t:Nat,i=Iq s∧j=Iq t∧a≤s∧s≤t∧t≤m∧Hid (∀k,a+k<s->R (A[k]?.getD 0) y)∧Hid (∀k,t≤a+k->k<A.length->R y (A[k]?.getD 0))∧Hid (IRow wr blk off (P++A++[y]++S))∧Hid (w.grownBy wr (some blk))) (fun i j _=>(intOf j).toNat-(intOf i).toNat);case atStart=>exact⟨a,m,rfl,rfl,Nat.le_refl _,by omega,Nat.le_refl _,fun k hk=>by omega,fun k h1 h2=>by omega,HR,grown_refl _ _⟩
 case round=>
  obtain⟨s,t,rfl,rfl,hms,hst,htb,hlo,hhi,hrow,hgr⟩:=hrel;by_cases hlt:s<t
  ·have hlt':(s:Int)<(t:Int):=by omega
   obtain⟨q,hq⟩:∃q:Nat,(s+t)/2=q:=⟨_,rfl⟩;have hqi:((s:Int)+(t:Int))/2=(q:Int):=by omega
   have hq1:s≤q:=by omega
   have hq2:q<t:=by omega
   have hqn:(q:Int)<(n:Int):=by omega
   have hmn:(m:Int)<(n:Int):=by omega
   obtain⟨k,hk⟩:∃k,q=a+k:=⟨q-a,by omega⟩;have hkA:k<A.length:=by omega
   obtain⟨x,hx⟩:=nmd (A[k]?.getD 0);have HY:=qH<|hx;have HK:=qH<|hk;have hxA:Hid (x∈A):=by show x∈A;rw[<-hx];exact mem_at hkA
   have hlr:=HN.out;have c0:wr.cell? ⟨blk,off+q,none⟩=some (Iq x):=by rw[(hrow.2 q (by omega)).1,hk,HAt k hkA,hx]
   have c1:wr.cell? ⟨blk,off+m,none⟩=some (Iq y):=by rw[(hrow.2 m (by omega)).1,HX.out]
   have HC1:Hid (Calls prog g (#[Iq y,Iq x]++lb) wr.drew fun e W'=>e=.returned (Iq (cf y x))∧Below wr.heap.size wr W'):=by refine(HCM wr.drew (grown_drew (grown_trans HW0 hgr)) y HYD x (HAD x hxA)).mono ?_;rintro e w2 ⟨rfl,b2⟩;exact⟨rfl,(Below.refl wr.heap.size wr).drew.trans b2⟩
   obtain⟨z,hz⟩:=nmd (cf y x);have HZ:=qH<|hz;rw[hz]at HC1;clear hq hk hx hlr hz;go_wp2_with fail;go_cut[103]from 92 to 103 (fun v wx=>v=.bool (!decide (z<0))∧Below wr.heap.size wr wx);case first=>
    go_region_with(refine HC1.mono ?_;rintro e wq ⟨rfl,bq⟩);all_goals(go_wp2_with fail)
    all_goals go_meet
    all_goals exact⟨rfl,bq⟩
   case rest=>
    obtain⟨rfl,bx⟩:=hcut;have hrow':=qH<|hrow.below bx;have hgr':=qH<|grown_trans hgr (grown_below bx);clear hrow hgr c0 c1 HC1;by_cases hz0:z<0
    ·have hhi':Hid (∀k',q≤a+k'->k'<A.length->R y (A[k']?.getD 0)):=by
      intro k' hk' hkl;have hyx:=HO.lt y HYD x (HAD x hxA) (by rw[HZ.out];exact hz0);by_cases e:k'=k;·subst e;rw[HY.out];exact hyx
      ·have hkk:k<k':=by have:=HK.out;omega
       have h1:=pair_at HAP hkk hkl;rw[HY.out]at h1;exact HO.trans y HYD x (HAD x hxA) _ (HAD _ (mem_at hkl)) hyx h1
     have hd:(!decide (z<0))=false:=by simp[hz0]
     rw[hd];go_wp2;go_roundw;case rel=>exact⟨s,q,rfl,rfl,hms,by omega,by omega,hlo,hhi',hrow',hgr'⟩
     case measure=>simp[intOf];omega
    ·have hlo':Hid (∀k',a+k'<q+1->R (A[k']?.getD 0) y):=by
      intro k' hk';have hxy:=HO.ge x (HAD x hxA) y HYD (HTA x hxA) (by rw[HZ.out];exact hz0);by_cases e:k'=k;·subst e;rw[HY.out];exact hxy
      ·have hkk:k'<k:=by have:=HK.out;omega
       have h1:=pair_at HAP hkk hkA;rw[HY.out]at h1;exact HO.trans _ (HAD _ (mem_at (by omega))) x (HAD x hxA) y HYD h1 hxy
     have hd:(!decide (z<0))=true:=by simp[hz0]
     rw[hd];go_wp2;go_roundw;case rel=>exact⟨q+1,t,by go_num,rfl,by omega,by omega,htb,hlo',hhi,hrow',hgr'⟩
     case measure=>simp[intOf];omega
  ·have hlt':¬(s:Int)<(t:Int):=by omega
   obtain rfl:s=t:=by omega
   obtain⟨c,hc⟩:∃c,s=a+c:=⟨s-a,by omega⟩;have hc1:s≤a+c:=by omega
   have hc2:a+c≤s:=by omega
   have hcA:c≤A.length:=by omega
   have HA1:Hid (∀x∈A.take c,R x y):=by intro x hx;obtain⟨k,hk,_,e⟩:=mem_take_at hx;rw[<-e];exact hlo k (by omega)
   have HA2:Hid (∀x∈A.drop c,R y x):=by intro x hx;obtain⟨k,hk,hkl,e⟩:=mem_drop_at hx;rw[<-e];exact hhi k (by omega) hkl
   clear hc;go_wp2;go_loopw[17] (fun i wr=>∃e u:Nat,a+e≤u∧u≤a+e∧i=Iq u∧c≤e∧e≤A.length∧Hid (IRow wr blk off (P++A.take e++[y]++A.drop e++S))∧Hid (w.grownBy wr (some blk))) (fun i _=>(intOf i).toNat);case atStart=>exact⟨A.length,m,by omega,by omega,rfl,by omega,Nat.le_refl _,by have:=hrow.out;show IRow _ _ _ _;simpa using this,hgr⟩
   case round=>
    obtain⟨e1,u,hu1,hu2,rfl,hec,heA,hrow2,hgr2⟩:=hrel;by_cases hlt2:c<e1
    ·have hlt3:(s:Int)<(u:Int):=by omega
     obtain⟨e,rfl⟩:∃e,e1=e+1:=⟨e1-1,by omega⟩;have heA':e<A.length:=by omega
     obtain⟨x,hx⟩:=nmd (A[e]?.getD 0);obtain⟨ht1,ht2⟩:=take_next A e heA';rw[hx]at ht1 ht2;obtain⟨v,hv⟩:∃v,v+1=u:=⟨u-1,by omega⟩;have hvi:(u:Int)-1=(v:Int):=by omega
     have huv:v<u:=by omega
     have hXl:(P++A.take e).length=v:=by have:=HA.out;rw[List.length_append,List.length_take];omega
     have HL2:(P++A.take (e+1)++[y]++A.drop (e+1)++S).length=n:=by have:=HN.out;simp only[List.length_append,List.length_take,List.length_drop,List.length_cons,List.length_nil]at*;omega
     have hd:P++A.take (e+1)++[y]++A.drop (e+1)++S=(P++A.take e)++[x]++[y]++(A.drop (e+1)++S):=by rw[ht1];simp[List.append_assoc]
     have hr1:=hrow2.out;rw[hd]at hr1 HL2;have hdx:((P++A.take e)++[x]++[y]++(A.drop (e+1)++S))[v]?.getD 0=x:=by rw[<-hXl];exact(at_two _ _ _ _).1
     have hdy:((P++A.take e)++[x]++[y]++(A.drop (e+1)++S))[u]?.getD 0=y:=by rw[<-hv,<-hXl];exact(at_two _ _ _ _).2
     have c0:wr.cell? ⟨blk,off+v,none⟩=some (Iq x):=by rw[(hr1.2 v (by omega)).1,hdx]
     have f0:=(hr1.2 v (by omega)).2;have c1:wr.cell? ⟨blk,off+u,none⟩=some (Iq y):=by rw[(hr1.2 u (by omega)).1,hdy]
     have f1:=(hr1.2 u (by omega)).2;have HNew:Hid (IRow ((wr.setCell ⟨blk,off+u,none⟩ (Iq x)).setCell ⟨blk,off+v,none⟩ (Iq y)) blk off (P++A.take e++[y]++A.drop e++S)):=by have:=irow_set2 hr1 u v (by omega) (by omega);rw[hdx,hdy,swp_comm _ _ _ (by omega) (by omega)]at this;have hs2:=swp_next (P++A.take e) x y (A.drop (e+1)++S);rw[hXl,hv]at hs2;rw[hs2]at this;show IRow _ _ _ _;rw[ht2];simpa[List.append_assoc]using this
     have HG:Hid (w.grownBy ((wr.setCell ⟨blk,off+u,none⟩ (Iq x)).setCell ⟨blk,off+v,none⟩ (Iq y)) (some blk)):=
      grown_trans hgr2 (grown_trans (grown_set _ _ _ _) (grown_set _ _ _ _));have hun:(u:Int)<(n:Int):=by omega
     have hvn:(v:Int)<(n:Int):=by omega
     have hwv:IntKind.i64.wrap (v:Int)=(v:Int):=IntWalk.i64_in _ ⟨by omega,by omega⟩;clear hr1 hd hdx hdy ht1 ht2 hx HL2 hXl hv hrow2 hgr2;go_wp2;go_big_region;go_wp2;go_roundw;case rel=>exact⟨e,v,by omega,by omega,rfl,by omega,by omega,HNew,grown_drew HG⟩
     case measure=>simp[intOf];omega
    ·have hlt3:¬(s:Int)<(u:Int):=by omega
     obtain rfl:e1=c:=by omega
     go_wp2;try simp only[Exit.inBlock,Exit.then]
     refine bodyPost_ret (results_none rfl _ _ _) rfl ?_;exact⟨rfl,⟨A.take e1,A.drop e1,(List.take_append_drop _ _).symm,HA1,HA2,by simpa[List.append_assoc]using hrow2.out⟩,hgr2⟩
end
section
open Go.RowKit Go.Proofs.Tryz
theorem cross{cf:Int->Int->Int}{D:List Int}{R:Int->Int->Prop}(hO:Ord cf D R){X Y:List Int}(hX:X.Pairwise R)(hY:Y.Pairwise R)(hXD:∀x∈X,x∈D)(hYD:∀y∈Y,y∈D)(i j:Nat)(hi:i≤X.length)
 (h:0<i->j<Y.length->R (X[i-1]?.getD 0) (Y[j]?.getD 0)):∀x∈X.take i,∀y∈Y.drop j,R x y:=by
 intro x hx y hy;obtain⟨k,hk,hkl,rfl⟩:=mem_take_at hx;obtain⟨l,hl,hll,rfl⟩:=mem_drop_at hy;have h0:=h (by omega) (by omega);have h1:R (X[k]?.getD 0) (Y[j]?.getD 0):=by
  by_cases e:k=i-1;·rw[e];exact h0
  ·exact hO.trans _ (hXD _ (mem_at hkl)) _ (hXD _ (mem_at (by omega))) _ (hYD _ (mem_at (by omega))) (pair_at hX (by omega) (by omega)) h0
 by_cases e:l=j;·rw[e];exact h1
 ·exact hO.trans _ (hXD _ (mem_at hkl)) _ (hYD _ (mem_at (by omega))) _ (hYD _ (mem_at hll)) h1 (pair_at hY (by omega) hll)
theorem four_perm(A1 A2 B1 B2 M1 M2:List Int)(h1:M1.Perm (A1++B1))(h2:M2.Perm (A2++B2)):(M1++M2).Perm ((A1++A2)++(B1++B2)):=by refine(h1.append h2).trans ?_;rw[List.append_assoc,List.append_assoc];refine List.Perm.append_left _ ?_;rw[<-List.append_assoc,<-List.append_assoc];exact List.Perm.append_right _ List.perm_append_comm
theorem four_pair{R:Int->Int->Prop}(A1 A2 B1 B2 M1 M2:List Int)(h1:M1.Perm (A1++B1))(h2:M2.Perm (A2++B2))(p1:M1.Pairwise R)(p2:M2.Pairwise R)(hA:(A1++A2).Pairwise R)(hB:(B1++B2).Pairwise R)(c1:∀x∈A1,∀y∈B2,R x y)(c2:∀x∈B1,∀y∈A2,R x y):(M1++M2).Pairwise R:=by
 refine List.pairwise_append.2 ⟨p1,p2,fun x hx y hy=>?_⟩;have hA':=(List.pairwise_append.1 hA).2.2;have hB':=(List.pairwise_append.1 hB).2.2;rcases List.mem_append.1 (h1.mem_iff.1 hx)with a|a<;>rcases List.mem_append.1 (h2.mem_iff.1 hy)with b|b;·exact hA' x a y b
 ·exact c1 x a y b
 ·exact c2 x a y b
 ·exact hB' x a y b
def Merged(w w':World)(blk off:Nat)(R:Int->Int->Prop)(P A B S:List Int):Prop:=
 (∃M:List Int,M.Perm (A++B)∧M.Pairwise R∧IRow w' blk off (P++M++S))∧w.grownBy w' (some blk)
def SymTo(g:Nat)(lb:Array Value)(cf:Int->Int->Int)(D:List Int)(R:Int->Int->Prop)(w0:World)(blk off cap:Nat)(N:Nat):Prop:=
 ∀(P A B S:List Int) (w:World) (n a m b:Nat),A.length+B.length≤N->w0.grownBy w (some blk)->IRow w blk off (P++A++B++S)->(∀x∈A,x∈D)->(∀x∈B,x∈D)->A.Pairwise R->B.Pairwise R->(∀x∈A,∀y∈B,x<y)->0<A.length->0<B.length->(P++A++B++S).length=n->n≤1099511627776->P.length=a->P.length+A.length=m->P.length+A.length+B.length=b->
  Calls prog 216 #[.slice (some ⟨blk,off,none⟩) n cap,Iq a,Iq m,Iq b,.func (.func g) #[] lb] w fun e w'=>e=.returned (.tuple #[])∧Merged w w' blk off R P A B S
theorem sone_of{A:List Int}(h:A.length=1):∃x,A=[x]:=by
 match A,h with
 |[x],_=>exact⟨x,rfl⟩
theorem sym_both(g:Nat)(lb:Array Value)(eg:∀args w,(callFunc g args).run prog w=.ok (.enter g args) w)(cf:Int->Int->Int)(D:List Int)(R:Int->Int->Prop)(hO:Ord cf D R)(w0:World)(blk off cap:Nat)(hcmp:CmpOk g lb cf D w0 blk)(N:Nat)(IH:SymTo g lb cf D R w0 blk off cap N)(P A B S:List Int)(w:World)(n a m b:Nat)(hN:A.length+B.length≤N+1)(hw0:w0.grownBy w (some blk))(h:IRow w blk off (P++A++B++S))(hAD:∀x∈A,x∈D)(hBD:∀x∈B,x∈D)(hAP:A.Pairwise R)(hBP:B.Pairwise R)(hlt:∀x∈A,∀y∈B,x<y)(hA0:2≤A.length)(hB0:2≤B.length)(hn:(P++A++B++S).length=n)(hlen:n≤1099511627776)(ha:P.length=a)(hm:P.length+A.length=m)(hb:P.length+A.length+B.length=b):
    Calls prog 216 #[.slice (some ⟨blk,off,none⟩) n cap,Iq a,Iq m,Iq b,.func (.func g) #[] lb] w fun e w'=>e=.returned (.tuple #[])∧Merged w w' blk off R P A B S:=by
  have HR:=qH<|h;have HO:=qH<|hO;have HW0:=qH<|hw0;have HCM:=qH<|hcmp;have HI:=qH<|IH;have HAD:=qH<|hAD;have HBD:=qH<|hBD;have HAP:=qH<|hAP;have HBP:=qH<|hBP;have HT:=qH<|hlt;have hmx:prog.follows .mixedOrders=true:=by kernel_rfl
  have hbn:b≤n:=by rw[<-hb,<-hn];simp only[List.length_append];omega
  have hmaB : ((m : Int) - (a : Int) == 1) = false := by have :¬(m:Int)-(a:Int)=1:=by omega
                                                         simpa using this
  have hbmB : ((b : Int) - (m : Int) == 1) = false := by have :¬(b:Int)-(m:Int)=1:=by omega
                                                         simpa using this
  have hm1:m≤a+A.length:=by omega
  have hm2:a+A.length≤m:=by omega
  have hb1:b≤m+B.length:=by omega
  have hb2:m+B.length≤b:=by omega
  have HN:=qH<|hn;have HA:=qH<|ha;have HAt:Hid (∀t,t<A.length->(P++A++B++S)[a+t]?.getD 0=A[t]?.getD 0):=by intro t ht;rw[app_at,if_pos (by simp only[List.length_append];omega),app_at,if_pos (by simp only[List.length_append];omega),app_at,if_neg (by omega)];congr 2;omega
  have HBt:Hid (∀t,t<B.length->(P++A++B++S)[m+t]?.getD 0=B[t]?.getD 0):=by intro t ht;rw[app_at,if_pos (by simp only[List.length_append];omega),app_at,if_neg (by simp only[List.length_append];omega)];congr 2;simp only[List.length_append];omega
  obtain⟨mid,hmid⟩:∃mid:Nat,(a+b)/2=mid:=⟨_,rfl⟩;have hmidi:((a:Int)+(b:Int))/2=(mid:Int):=by omega
  have hmid1:a+b≤2*mid+1:=by omega
  have hmid2:2*mid≤a+b:=by omega
  obtain⟨n',hn'⟩:∃n':Nat,mid+m=n':=⟨_,rfl⟩;have hni:(mid:Int)+(m:Int)=(n':Int):=by omega
  obtain⟨p,hp⟩:∃p:Nat,n'-1=p:=⟨_,rfl⟩;have hpi:(n':Int)-1=(p:Int):=by omega
  have HP':Hid (p+1=mid+m∧n'=mid+m):=⟨by omega,by omega⟩;have hnb:n'≤2199023255552:=by omega
  have hpb:p≤2199023255552:=by omega
  obtain⟨sb,hsb⟩:∃sb:Int,(n':Int)-(b:Int)=sb:=⟨_,rfl⟩;have hsbi:sb=(mid:Int)+(m:Int)-(b:Int):=by omega
  have HSB:=qH<|hsbi;have hsb1:-2199023255552≤sb:=by omega
  have hsb2:sb≤2199023255552:=by omega
  clear h hO hw0 hcmp IH hAD hBD hAP hBP hlt hn ha hm hb hmid hn' hp hsbi;go_enter func216,ntmps216;go_upto_if 140 with fail;go_cut[20,21]from 140 to 146 (fun i j wx=>∃s0 r0:Nat,i=Iq s0∧j=Iq r0∧a≤s0∧s0≤r0∧r0≤m∧r0≤mid∧mid+m≤s0+b∧Hid ((mid+m≤s0+b∧s0+b≤mid+m∧mid≤r0)∨(s0=a∧r0=m))∧w=wx);case first=>
    by_cases hc:mid<m
    · have hc':(mid:Int)<(m:Int):=by omega
      go_wp2_with fail;go_meet;exact⟨mid+m-b,mid,by have:=HSB.out;congr 1;omega,rfl,by omega,by omega,by omega,Nat.le_refl _,by omega,Or.inl ⟨by omega,by omega,Nat.le_refl _⟩,rfl⟩
    · have hc':¬(mid:Int)<(m:Int):=by omega
      go_wp2_with fail;go_meet;exact⟨a,m,rfl,rfl,Nat.le_refl _,by omega,Nat.le_refl _,by omega,by omega,Or.inr ⟨rfl,rfl⟩,rfl⟩
  case rest=>
    obtain⟨s0,r0,rfl,rfl,has,hsr,hrm,hrmid,hsb',HD,rfl⟩:=hcut;clear hsb hsb1 hsb2 HSB;go_wp2;go_loopw[20,21] (fun i j wr=>∃s r:Nat,i=Iq s∧j=Iq r∧s0≤s∧s≤r∧r≤r0∧Hid (s0<s->R (A[s-1-a]?.getD 0) (B[mid-s]?.getD 0))∧Hid (r<r0->R (B[mid-1-r]?.getD 0) (A[r-a]?.getD 0))∧Hid (IRow wr blk off (P++A++B++S))∧Hid (w.grownBy wr (some blk))) (fun i j _=>(intOf j).toNat-(intOf i).toNat);case atStart=>exact⟨s0,r0,rfl,rfl,Nat.le_refl _,hsr,Nat.le_refl _,fun h=>by omega,fun h=>by omega,HR,grown_refl _ _⟩
    case round=>
      obtain⟨s,r,rfl,rfl,hs0,hsr',hr0,hlo,hhi,hrow,hgr⟩:=hrel;by_cases hlt:s<r
      · have hlt':(s:Int)<(r:Int):=by omega
        obtain⟨q,hq⟩:∃q:Nat,(s+r)/2=q:=⟨_,rfl⟩;have hqi:((s:Int)+(r:Int))/2=(q:Int):=by omega
        have hq1:s≤q:=by omega
        have hq2:q<r:=by omega
        have hqn:(q:Int)<(n:Int):=by omega
        obtain⟨u,hu⟩:∃u:Nat,mid+m-1-q=u:=⟨_,rfl⟩;have hui:(p:Int)-(q:Int)=(u:Int):=by have:=HP'.out;omega
        have hun:(u:Int)<(n:Int):=by omega
        have HU:Hid (u=m+(mid-1-q)):=by show _=_;omega
        have hwu:IntKind.i64.wrap (u:Int)=(u:Int):=IntWalk.i64_in _ ⟨by omega,by omega⟩;have hkA:q-a<A.length:=by omega
        have hkB:mid-1-q<B.length:=by omega
        obtain⟨x,hx⟩:=nmd (A[q-a]?.getD 0);obtain⟨y,hy⟩:=nmd (B[mid-1-q]?.getD 0);have HXe:=qH<|hx;have HYe:=qH<|hy;have hxA:Hid (x∈A):=by show x∈A;rw[<-hx];exact mem_at hkA
        have hyB:Hid (y∈B):=by show y∈B;rw[<-hy];exact mem_at hkB
        have hlr:=HN.out;have c0:wr.cell? ⟨blk,off+q,none⟩=some (Iq x):=by rw[(hrow.2 q (by omega)).1,show q=a+(q-a)by omega,HAt _ hkA,hx]
        have c1:wr.cell? ⟨blk,off+u,none⟩=some (Iq y):=by rw[(hrow.2 u (by omega)).1,HU.out,HBt _ hkB,hy]
        have HC1:Hid (Calls prog g (#[Iq y,Iq x]++lb) wr.drew fun e W'=>e=.returned (Iq (cf y x))∧Below wr.heap.size wr W'):=by refine(HCM wr.drew (grown_drew (grown_trans HW0 hgr)) y (HBD y hyB) x (HAD x hxA)).mono ?_;rintro e w2 ⟨rfl,b2⟩;exact⟨rfl,(Below.refl wr.heap.size wr).drew.trans b2⟩
        obtain⟨z,hz⟩:=nmd (cf y x);have HZ:=qH<|hz;rw[hz]at HC1;clear hq hx hy hlr hz hu hkA hkB;go_wp2_with fail;go_cut[171]from 158 to 171 (fun v wx=>v=.bool (!decide (z<0))∧Below wr.heap.size wr wx);case first=>
          go_region_with(refine HC1.mono ?_;rintro e wq ⟨rfl,bq⟩);all_goals(go_wp2_with fail)
          all_goals go_meet
          all_goals exact⟨rfl,bq⟩
        case rest=>
          obtain⟨rfl,bx⟩:=hcut;have hrow':=qH<|hrow.below bx;have hgr':=qH<|grown_trans hgr (grown_below bx);clear hrow hgr c0 c1 HC1;by_cases hz0:z<0
          · have hhi':Hid (q<r0->R (B[mid-1-q]?.getD 0) (A[q-a]?.getD 0)):=by intro _;rw[HXe.out,HYe.out];exact HO.lt y (HBD y hyB) x (HAD x hxA) (by rw[HZ.out];exact hz0)
            have hd:(!decide (z<0))=false:=by simp[hz0]
            rw[hd];go_wp2;go_roundw;case rel=>exact⟨s,q,rfl,rfl,hs0,by omega,by omega,hlo,hhi',hrow',hgr'⟩
            case measure=>simp[intOf];omega
          · have hlo':Hid (s0<q+1->R (A[q+1-1-a]?.getD 0) (B[mid-(q+1)]?.getD 0)):=by intro _;rw[show q+1-1-a=q-a by omega,show mid-(q+1)=mid-1-q by omega,HXe.out,HYe.out];exact HO.ge x (HAD x hxA) y (HBD y hyB) (HT x hxA y hyB) (by rw[HZ.out];exact hz0)
            have hd:(!decide (z<0))=true:=by simp[hz0]
            rw[hd];go_wp2;go_roundw;case rel=>exact⟨q+1,r,by go_num,rfl,by omega,by omega,hr0,hlo',hhi,hrow',hgr'⟩
            case measure=>simp[intOf];omega
      · have hlt':¬(s:Int)<(r:Int):=by omega
        obtain rfl:s=r:=by omega
        obtain⟨e,he⟩:∃e:Nat,mid+m-s=e:=⟨_,rfl⟩;have hei:(n':Int)-(s:Int)=(e:Int):=by have:=HP'.out;omega
        have he1:e+s≤mid+m:=by omega
        have he2:mid+m≤e+s:=by omega
        obtain⟨A1,hA1⟩:=nmd (A.take (s-a));obtain⟨A2,hA2⟩:=nmd (A.drop (s-a));obtain⟨B1,hB1⟩:=nmd (B.take (mid-s));obtain⟨B2,hB2⟩:=nmd (B.drop (mid-s));have LA1:Hid (A1.length=s-a):=by show _=_;rw[<-hA1,List.length_take];omega
        have LA2:Hid (A2.length=m-s):=by show _=_;rw[<-hA2,List.length_drop];omega
        have LB1:Hid (B1.length=mid-s):=by show _=_;rw[<-hB1,List.length_take];omega
        have LB2:Hid (B2.length=b-e):=by show _=_;rw[<-hB2,List.length_drop];omega
        have EA:Hid (A=A1++A2):=by show _=_;rw[<-hA1,<-hA2,List.take_append_drop]
        have EB:Hid (B=B1++B2):=by show _=_;rw[<-hB1,<-hB2,List.take_append_drop]
        have X1:Hid (∀x∈A1,∀y∈B2,R x y):=by
          show∀x∈A1,∀y∈B2,R x y;rw[<-hA1,<-hB2];refine cross HO HAP HBP HAD HBD _ _ (by omega) fun h0 h1=>?_;have hss:s0<s:=by rcases HD.out with⟨d1,d2,d3⟩|⟨d1,d2⟩<;>omega
          have:=hlo hss;rwa[show s-1-a=s-a-1 by omega]at this
        have X2:Hid (∀x∈B1,∀y∈A2,R x y):=by
          show∀x∈B1,∀y∈A2,R x y;rw[<-hB1,<-hA2];refine cross HO HBP HAP HBD HAD _ _ (by omega) fun h0 h1=>?_;have hss:s<r0:=by rcases HD.out with⟨d1,d2,d3⟩|⟨d1,d2⟩<;>omega
          have:=hhi hss;rwa[show mid-1-s=mid-s-1 by omega]at this
        clear hA1 hA2 hB1 hB2 hlo hhi he HAt HBt HCM HD;have PA:Hid (A1.Pairwise R∧A2.Pairwise R∧B1.Pairwise R∧B2.Pairwise R):=by have h1:=HAP.out;rw[EA.out]at h1;have h2:=HBP.out;rw[EB.out]at h2;exact⟨(List.pairwise_append.1 h1).1,(List.pairwise_append.1 h1).2.1,(List.pairwise_append.1 h2).1,(List.pairwise_append.1 h2).2.1⟩
        have MA:Hid ((∀x∈A1,x∈A)∧(∀x∈A2,x∈A)∧(∀x∈B1,x∈B)∧(∀x∈B2,x∈B)):=by refine⟨?_,?_,?_,?_⟩<;>intro x hx<;>first|(rw[EA.out];exact List.mem_append.2 (Or.inl hx))|(rw[EA.out];exact List.mem_append.2 (Or.inr hx))|(rw[EB.out];exact List.mem_append.2 (Or.inl hx))|(rw[EB.out];exact List.mem_append.2 (Or.inr hx))
        have HR0:Hid (IRow wr blk off (P++A1++A2++B1++(B2++S))):=by have:=hrow.out;rw[EA.out,EB.out]at this;show IRow _ _ _ _;simpa[List.append_assoc]using this
        have HL0:Hid (P.length+A1.length+A2.length+B1.length+B2.length+S.length=n):=by have:=HN.out;rw[EA.out,EB.out]at this;show _=_;simp only[List.length_append]at this;omega
        have HC1:Hid (s<m->s<mid->Calls prog 232 #[.slice (some ⟨blk,off,none⟩) n cap,Iq s,Iq m,Iq e,.func (.func g) #[] lb] wr fun e w'=>e=.returned (.tuple #[])∧IRow w' blk off (P++A1++B1++(A2++B2++S))∧w.grownBy w' (some blk)):=by
          intro h1 h2;have:=LA1.out;have:=LA2.out;have:=LB1.out;have:=HA.out;have:=HL0.out;have e0:(P++A1++A2++B1++(B2++S)).length=n:=by simp only[List.length_append];omega
          have e1:(P++A1).length=s:=by simp only[List.length_append];omega
          have e2:(P++A1).length+A2.length=m:=by simp only[List.length_append];omega
          have e3:(P++A1).length+A2.length+B1.length=e:=by simp only[List.length_append];omega
          have c:=rotate_any (P++A1) A2 B1 (B2++S) blk off cap (.func (.func g) #[] lb) wr HR0 (by omega) (by omega) (by omega);rw[e3,e2,e1,e0]at c;refine c.mono ?_;rintro ex w' ⟨rfl,r1,g1⟩;exact⟨rfl,by simpa[List.append_assoc]using r1,grown_trans hgr g1⟩
        have HC2:Hid (∀w2,IRow w2 blk off (P++A1++B1++(A2++B2++S))->w.grownBy w2 (some blk)->a<s->s<mid->Calls prog 216 #[.slice (some ⟨blk,off,none⟩) n cap,Iq a,Iq s,Iq mid,.func (.func g) #[] lb] w2 fun e w'=>e=.returned (.tuple #[])∧(∃M1:List Int,M1.Perm (A1++B1)∧M1.Pairwise R∧IRow w' blk off (P++M1++(A2++B2++S)))∧w.grownBy w' (some blk)):=by intro w2 hr2 hg2 h1 h2;have:=LA1.out;have:=LA2.out;have:=LB1.out;have:=LB2.out;have:=HA.out;have:=HL0.out;refine(HI P A1 B1 (A2++B2++S) w2 n a s mid (by omega) (grown_trans HW0 hg2) hr2 (fun x hx=>HAD x (MA.1 x hx)) (fun x hx=>HBD x (MA.2.2.1 x hx)) PA.1 PA.2.2.1 (fun x hx y hy=>HT x (MA.1 x hx) y (MA.2.2.1 y hy)) (by omega) (by omega) (by simp only[List.length_append];omega) hlen HA (by omega) (by omega)).mono ?_;rintro ex w' ⟨rfl,m1,g1⟩;exact⟨rfl,m1,grown_trans hg2 g1⟩
        have HC3:Hid (∀M1:List Int,M1.Perm (A1++B1)->∀w2,IRow w2 blk off (P++M1++(A2++B2++S))->w.grownBy w2 (some blk)->s<m->e<b->Calls prog 216 #[.slice (some ⟨blk,off,none⟩) n cap,Iq mid,Iq e,Iq b,.func (.func g) #[] lb] w2 fun e w'=>e=.returned (.tuple #[])∧(∃M2:List Int,M2.Perm (A2++B2)∧M2.Pairwise R∧IRow w' blk off (P++M1++M2++S))∧w.grownBy w' (some blk)):=by
          intro M1 hM1 w2 hr2 hg2 h1 h2;have:=LA1.out;have:=LA2.out;have:=LB1.out;have:=LB2.out;have:=HA.out;have:=HL0.out;have hl:=hM1.length_eq;rw[List.length_append]at hl;have hr3:IRow w2 blk off ((P++M1)++A2++B2++S):=by simpa[List.append_assoc]using hr2
          refine(HI (P++M1) A2 B2 S w2 n mid e b (by omega) (grown_trans HW0 hg2) hr3 (fun x hx=>HAD x (MA.2.1 x hx)) (fun x hx=>HBD x (MA.2.2.2 x hx)) PA.2.1 PA.2.2.2 (fun x hx y hy=>HT x (MA.2.1 x hx) y (MA.2.2.2 y hy)) (by omega) (by omega) (by simp only[List.length_append];omega) hlen (by simp only[List.length_append];omega) (by simp only[List.length_append];omega) (by simp only[List.length_append];omega)).mono ?_;rintro ex w' ⟨rfl,m1,g1⟩;exact⟨rfl,m1,grown_trans hg2 g1⟩
        have HEnd:Hid (∀M1 M2:List Int,∀w',M1.Perm (A1++B1)->M1.Pairwise R->M2.Perm (A2++B2)->M2.Pairwise R->IRow w' blk off (P++M1++M2++S)->w.grownBy w' (some blk)->Merged w w' blk off R P A B S):=by
          intro M1 M2 w' h1 p1 h2 p2 hr hg;refine⟨⟨M1++M2,?_,?_,by simpa[List.append_assoc]using hr⟩,hg⟩;·rw[EA.out,EB.out];exact four_perm _ _ _ _ _ _ h1 h2
          ·have h3:=HAP.out;rw[EA.out]at h3;have h4:=HBP.out;rw[EB.out]at h4;exact four_pair A1 A2 B1 B2 M1 M2 h1 h2 p1 p2 h3 h4 X1 X2
        have hrow0:Hid (m≤s∨mid≤s->IRow wr blk off (P++A1++B1++(A2++B2++S))):=by
          intro hc;have:=LA2.out;have:=LB1.out;have h0:=HR0.out;rcases hc with hc|hc;·rw[List.eq_nil_of_length_eq_zero (show A2.length=0 by omega)]at h0⊢;simpa[List.append_assoc]using h0
          ·rw[List.eq_nil_of_length_eq_zero (show B1.length=0 by omega)]at h0⊢;simpa[List.append_assoc]using h0
        have hM10:Hid (s≤a∨mid≤s->(A1++B1).Pairwise R):=by
          intro hc;have:=LA1.out;have:=LB1.out;rcases hc with hc|hc;·rw[List.eq_nil_of_length_eq_zero (show A1.length=0 by omega)];exact PA.2.2.1
          ·rw[List.eq_nil_of_length_eq_zero (show B1.length=0 by omega),List.append_nil];exact PA.1
        have hM20:Hid (m≤s∨b≤e->(A2++B2).Pairwise R):=by
          intro hc;have:=LA2.out;have:=LB2.out;rcases hc with hc|hc;·rw[List.eq_nil_of_length_eq_zero (show A2.length=0 by omega)];exact PA.2.2.2
          ·rw[List.eq_nil_of_length_eq_zero (show B2.length=0 by omega),List.append_nil];exact PA.2.1
        have Heb:e≤b:=by omega
        clear hrow HR0 EA EB X1 X2 PA MA HL0 LA1 LA2 LB1 LB2 HI HAP HBP HAD HBD HT HO HN;have HK1:Hid (∀w2,IRow w2 blk off (P++A1++B1++(A2++B2++S))->(s≤a∨mid≤s)->∃M1:List Int,M1.Perm (A1++B1)∧M1.Pairwise R∧IRow w2 blk off (P++M1++(A2++B2++S))):=fun w2 h hc=>⟨A1++B1,List.Perm.refl _,hM10 hc,by simpa[List.append_assoc]using h⟩;have HK2:Hid (∀M1 w3,IRow w3 blk off (P++M1++(A2++B2++S))->(m≤s∨b≤e)->∃M2:List Int,M2.Perm (A2++B2)∧M2.Pairwise R∧IRow w3 blk off (P++M1++M2++S)):=fun M1 w3 h hc=>⟨A2++B2,List.Perm.refl _,hM20 hc,by simpa[List.append_assoc]using h⟩;by_cases i1:(s:Int)<(m:Int)<;>by_cases i2:(m:Int)<(e:Int)<;>by_cases i3:(a:Int)<(s:Int)<;>by_cases i4:(s:Int)<(mid:Int)<;>by_cases i5:(mid:Int)<(e:Int)<;>by_cases i6:(e:Int)<(b:Int)<;>try(exfalso;omega)
        all_goals
          first
            |have h0:=HC1 (by omega) (by omega);go_wp2_with fail;refine Calls.mono h0 ?_;clear h0;rintro ex w2 ⟨rfl,r2,g2⟩
            |have r2:=hrow0 (by omega);have g2:=hgr.out
          have HR2:=qH<|r2;have HG2:=qH<|g2;clear r2 g2 HC1 hrow0;first
            |have h0:=HC2 _ HR2 HG2 (by omega) (by omega);go_wp2_with fail;refine Calls.mono h0 ?_;clear h0;rintro ex w3 ⟨rfl,⟨M1,q1,q2,r3⟩,g3⟩
            |obtain⟨M1,q1,q2,r3⟩:=HK1 _ HR2 (by omega);have g3:=HG2.out
          have HQ1:=qH<|q1;have HQ2:=qH<|q2;have HR3:=qH<|r3;have HG3:=qH<|g3;clear q1 q2 r3 g3 HR2 HG2 HC2 HK1;first
            |have h0:=HC3 M1 HQ1 _ HR3 HG3 (by omega) (by omega);go_wp2_with fail;refine Calls.mono h0 ?_;clear h0;rintro ex w4 ⟨rfl,⟨M2,q3,q4,r4⟩,g4⟩
            |obtain⟨M2,q3,q4,r4⟩:=HK2 M1 _ HR3 (by omega);have g4:=HG3.out
          have HZ:=qH<|HEnd M1 M2 _ HQ1 HQ2 q3 q4 r4 g4;clear q3 q4 r4 g4 HEnd HC3 HK2;go_wp2;go_end0;exact⟨rfl,HZ⟩
theorem sym_any(g:Nat)(lb:Array Value)(eg:∀args w,(callFunc g args).run prog w=.ok (.enter g args) w)(cf:Int->Int->Int)(D:List Int)(R:Int->Int->Prop)(hO:Ord cf D R)(w0:World)(blk off cap:Nat)(hcmp:CmpOk g lb cf D w0 blk):∀N,SymTo g lb cf D R w0 blk off cap N
 |0=>fun P A B S w n a m b hN hw0 h hAD hBD hAP hBP hlt hA0 hB0 hn hlen ha hm hb=>by omega
 |N+1=>fun P A B S w n a m b hN hw0 h hAD hBD hAP hBP hlt hA0 hB0 hn hlen ha hm hb=>by
  by_cases h1:A.length=1
  ·obtain⟨x,rfl⟩:=sone_of h1;have c:=sym_left g lb eg cf D R hO w0 P x B S blk off cap hcmp w hw0 h (hAD x (by simp)) hBD hBP (fun y hy=>hlt x (by simp) y hy) hB0 (by omega);rw[hn,ha,show a+1=m by rw[h1]at hm;omega,show m+B.length=b by omega]at c;refine c.mono ?_;rintro ex w' ⟨rfl,⟨B1,B2,rfl,x1,x2,r⟩,g1⟩;refine⟨rfl,⟨B1++[x]++B2,?_,?_,by simpa[List.append_assoc]using r⟩,g1⟩;·rw[<-List.append_assoc];exact List.Perm.append_right _ List.perm_append_comm
   ·have hp:=List.pairwise_append.1 hBP;refine List.pairwise_append.2 ⟨List.pairwise_append.2 ⟨hp.1,List.pairwise_singleton _ _,?_⟩,hp.2.1,?_⟩;·intro y hy z hz;rw[List.mem_singleton]at hz;subst hz;exact x1 y hy
    ·intro y hy z hz;rcases List.mem_append.1 hy with h2|h2;·exact hp.2.2 y h2 z hz
     ·rw[List.mem_singleton]at h2;subst h2;exact x2 z hz
  ·by_cases h2:B.length=1
   ·obtain⟨y,rfl⟩:=sone_of h2;have c:=sym_right g lb eg cf D R hO w0 P A y S blk off cap hcmp w hw0 h (hBD y (by simp)) hAD hAP (fun x hx=>hlt x hx y (by simp)) (by omega) (by omega);rw[hn,show P.length+A.length+1=b by rw[h2]at hb;omega,hm,ha]at c;refine c.mono ?_;rintro ex w' ⟨rfl,⟨A1,A2,rfl,x1,x2,r⟩,g1⟩;refine⟨rfl,⟨A1++[y]++A2,?_,?_,by simpa[List.append_assoc]using r⟩,g1⟩;·rw[List.append_assoc,List.append_assoc];exact List.Perm.append_left _ List.perm_append_comm
    ·have hp:=List.pairwise_append.1 hAP;refine List.pairwise_append.2 ⟨List.pairwise_append.2 ⟨hp.1,List.pairwise_singleton _ _,?_⟩,hp.2.1,?_⟩;·intro x hx z hz;rw[List.mem_singleton]at hz;subst hz;exact x1 x hx
     ·intro x hx z hz;rcases List.mem_append.1 hx with h3|h3;·exact hp.2.2 x h3 z hz
      ·rw[List.mem_singleton]at h3;subst h3;exact x2 z hz
   ·exact sym_both g lb eg cf D R hO w0 blk off cap hcmp N (sym_any g lb eg cf D R hO w0 blk off cap hcmp N) P A B S w n a m b hN hw0 h hAD hBD hAP hBP hlt (by omega) (by omega) hn hlen ha hm hb
end
end Go.Proofs.YtmbefonnkkhfgaaGreatDoor
