import Derived.Test.YtehgehanbnkdiaaGreatDoorQ00
import Derived.Deep.RegionWith
import Derived.Deep.CutRange
import Derived.Test.YtehgehanbnkdiaaGreatDoorQ05
set_option linter.all false
set_option maxRecDepth 100000
set_option maxHeartbeats 16000000
namespace Go.Proofs.YtehgehanbnkdiaaGreatDoor
open Go.RowKit Go.Proofs.Tryz
def ud(g:Nat)(lb:Array Fd)(cf:Int->Int->Int)(D:zzc)(w0:AT)(blk:Nat):Prop:=
 ∀W,w0.grownBy W (some blk)->∀x∈D,∀y∈D,Cw g (#[Iq x,Iq y]++lb) W λe W'=>e=Rw (Iq (cf x y))/\Bq W W'
structure Ord(cf:Int->Int->Int)(D:zzc)(R:Int->Int->Prop):Prop where
 lt:∀x∈D,∀y∈D,cf x y<0->R x y
 ge:∀x∈D,∀y∈D,x<y->¬cf y x<0->R x y
 trans:∀x∈D,∀y∈D,∀z∈D,R x y->R y z->R x z
 bd:∀x∈D,∀y∈D,-1<=cf x y/\cf x y<=1
theorem ig{R}{B:zzc}(h:B.Pairwise R){i j}(a:i<j)(b:j<B.length):R (B[i]?.getD 0) (B[j]?.getD 0):=by rw[cW b,cW dg];exact IQ.1 h i j dg b a
theorem dE{B:zzc}{i}(hi:i<B.length):B[i]?.getD 0∈B:=rn
theorem fY{B:zzc}{c}{y}(h:y∈B.take c):∃k,k<c/\k<B.length/\B[k]?.getD 0=y:=by obtain⟨k,a,e⟩:=lT.1 h;rw[cF]at a;refine⟨k,dg,dg,?_⟩;grind
theorem iW{B:zzc}{c}{y}(h:y∈B.drop c):∃k,c<=k/\k<B.length/\B[k]?.getD 0=y:=by obtain⟨k,a,e⟩:=lT.1 h;rw[de]at a;refine⟨c+k,dg,dg,?_⟩;grind
theorem lX(X:zzc)p q Y:(X++[p]++[q]++Y)[X.length]?.getD 0=p/\(X++[p]++[q]++Y)[X.length+1]?.getD 0=q:=rn
theorem qf X p q Y:swp (X++[p]++[q]++Y) X.length (X.length+1)=X++[q]++[p]++Y:=by have:=sa X [p] [] [q] Y rfl;simp only[iC,cN,en,qn,ci]at this;exact this
theorem gM(B:zzc)e(h:e<B.length):B.take (e+1)=B.take e++[B[e]?.getD 0]/\B.drop e=[B[e]?.getD 0]++B.drop (e+1):=by simp_all
theorem Im(g:Nat)(lb:Array Fd)(eg:∀args w,(callFunc g args).run prog w=.ok (.enter g args) w)(cf:Int->Int->Int)(D:zzc)(R:Int->Int->Prop)(hO:Ord cf D R)(w0:AT)(P:zzc)(x:Int)(B S:zzc)(d off zA:Nat)(I:ud g lb cf D w0 d)(w:AT)(zn:w0.grownBy w (some d))(h:aK w d off (P++[x]++B++S))(hx:x∈D)(hB:∀y∈B,y∈D)(Z:B.Pairwise R)(hT:∀y∈B,x<y)(zM:0<B.length)(zh:(P++[x]++B++S).length<=1099511627776):
 Cw 376 #[.slice (some (aq d off)) (P++[x]++B++S).length zA,Iq P.length,Iq ((P.length+1:Nat):Int),Iq ((P.length+1+B.length:Nat):Int),.func (.func g) #[] lb] w λe w'=>e=Rw (.tuple #[])/\(∃B1 B2,B=B1++B2/\(∀y∈B1,R y x)/\(∀y∈B2,R x y)/\aK w' d off (P++B1++[x]++B2++S))/\w.grownBy w' (some d):=by
 have HR:=qH<|h;have HO:=qH<|hO;have zy:=qH<|zn;have zw:=qH<|I;have A:=qH<|hx;have f:=qH<|hB;have W:=qH<|Z;have zx:=qH<|hT;obtain⟨n,hn⟩:=af ((P++[x]++B++S).length);obtain⟨a,ha⟩:=af P.length;obtain⟨b,hb⟩:=af (P.length+1+B.length);obtain⟨m,hm⟩:=af (P.length+1);have zO:b<=n:=by rw[<-hb,<-hn];simp only[aI,cN,en];omega
 have zU:(m:Int)-(a:Int)=1:=dg;have zG:b<=m+B.length:=dg;have zH:m+B.length<=b:=dg;have zJ:m<=a+1:=dg;have zK:a+1<=m:=dg;have HN:=qH<|hn;have HA:=qH<|ha;have HX:Hid ((P++[x]++B++S)[a]?.getD 0=x):=by show _=_;rw[<-ha];simp[cd]
 have zv:Hid (∀t,t<B.length->(P++[x]++B++S)[m+t]?.getD 0=B[t]?.getD 0):=by intro t ht;rw[fC,if_pos rn,fC,if_neg rn];congr 2;simp only[aI,cN,en];omega
 rw[hn]at zh⊢;rw[hb,hm,ha];clear h hO zn I hx hB Z hT hn ha hb hm;go_enter func376,ntmps376;go_wp2;go_loopw[10,11] (λi j wr=>∃s t:Nat,i=Iq s/\j=Iq t/\m<=s/\s<=t/\t<=b/\Hid (∀k,m+k<s->R (B[k]?.getD 0) x)/\Hid (∀k,t<=m+k->k<B.length->R x (B[k]?.getD 0))/\Hid (aK wr d off (P++[x]++B++S))/\Hid (w.grownBy wr (some d))) (λi j _=>(intOf j).toNat-(intOf i).toNat);case atStart=>exact⟨m,b,rfl,rfl,ad _,dg,ad _,λk V=>dg,λk U h2=>dg,HR,cL _ _⟩
 case round=>
  obtain⟨s,t,rfl,rfl,zE,Yc,zF,zi,ze,p,G⟩:=hrel;by_cases zT:s<t
  ·have zk:(s:Int)<(t:Int):=dg
   obtain⟨q,hq⟩:∃q:Nat,(s+t)/2=q:=⟨_,rfl⟩;have zY:((s:Int)+(t:Int))/2=(q:Int):=dg;have zV:s<=q:=dg;have zX:q<t:=dg;have zZ:(q:Int)<(n:Int):=dg;have zN:(a:Int)<(n:Int):=dg;obtain⟨k,V⟩:∃k,q=m+k:=⟨q-m,dg⟩;have N:k<B.length:=dg;obtain⟨y,hy⟩:=af (B[k]?.getD 0);have HY:=qH<|hy;have HK:=qH<|V;have r:Hid (y∈B):=by show y∈B;rw[<-hy];exact dE N
   have zD:=HN.out;have c0:wr.cell? (aq d (off+q))=some (Iq y):=by rw[(p.2 q dg).1,V,zv k N,hy]
   have c1:wr.cell? (aq d (off+a))=some (Iq x):=by rw[(p.2 a dg).1,HX.out]
   have K:Hid (Cw g (#[Iq y,Iq x]++lb) wr.drew λe W'=>e=Rw (Iq (cf y x))/\Bq wr W'):=by refine(zw wr.drew (dM (grown_trans zy G)) y (f y r) x A).mono ?_;rintro e w2 ⟨rfl,b2⟩;exact⟨rfl,(ac wr.heap.size wr).drew.trans b2⟩
   obtain⟨z,hz⟩:=af (cf y x);have HZ:=qH<|hz;rw[hz]at K;clear hq V hy zD hz;go_wp2_with fail;go_cut[50]from 40 to 50 (λv wx=>v=.bool (decide (z<0))/\Bq wr wx);case first=>
    go_region_with(refine K.mono ?_;rintro e wq ⟨rfl,bq⟩);all_goals(go_wp2_with fail)
    all_goals go_meet
    all_goals simp_all
   case rest=>
    obtain⟨rfl,bx⟩:=hcut;have E:=qH<|p.below bx;have J:=qH<|grown_trans G (grown_below bx);clear p G c0 c1 K;by_cases zr:z<0
    ·have zj:Hid (∀k',m+k'<q+1->R (B[k']?.getD 0) x):=by
      intro k' zC;have zq:=HO.lt y (f y r) x A (by rw[HZ.out];exact zr);by_cases e:k'=k;·subst e;rw[HY.out];exact zq
      ·have O:k'<k:=by have:=HK.out;omega
       have U:=ig W O N;rw[HY.out]at U;exact HO.trans _ (f _ (dE dg)) y (f y r) x A U zq
     go_wp2;go_roundw;case rel=>exact⟨q+1,t,by go_num,rfl,dg,dg,zF,zj,ze,E,J⟩
     case measure=>simp[intOf];omega
    ·have zg:Hid (∀k',q<=m+k'->k'<B.length->R x (B[k']?.getD 0)):=by
      intro k' zC H;have zo:=HO.ge x A y (f y r) (zx y r) (by rw[HZ.out];exact zr);by_cases e:k'=k;·subst e;rw[HY.out];exact zo
      ·have O:k<k':=by have:=HK.out;omega
       have U:=ig W O H;rw[HY.out]at U;exact HO.trans x A y (f y r) _ (f _ (dE H)) zo U
     go_wp2;go_roundw;case rel=>exact⟨s,q,rfl,rfl,zE,dg,dg,zi,zg,E,J⟩
     case measure=>simp[intOf];omega
  ·have zk:¬(s:Int)<(t:Int):=dg
   obtain rfl:s=t:=dg;obtain⟨c,hc⟩:∃c,s=m+c:=⟨s-m,dg⟩;have zL:=qH<|hc;have zP:s<=m+c:=dg
   have zQ:m+c<=s:=dg;have zR:c<=B.length:=dg;have zt:Hid (∀y∈B.take c,R y x):=by intro y hy;obtain⟨k,V,_,e⟩:=fY hy;rw[<-e];exact zi k dg
   have zu:Hid (∀y∈B.drop c,R x y):=by intro y hy;obtain⟨k,V,H,e⟩:=iW hy;rw[<-e];exact ze k dg H
   clear hc;go_wp2;go_loopw[13] (λi wr=>∃e u:Nat,a+e<=u/\u<=a+e/\i=Iq u/\e<=c/\Hid (aK wr d off (P++B.take e++[x]++B.drop e++S))/\Hid (w.grownBy wr (some d))) (λi _=>s-(intOf i).toNat);case atStart=>exact⟨0,a,dg,dg,rfl,aP _,by simp_all,G⟩
   case round=>
    obtain⟨e,u,UN,Yf,rfl,zS,o,C⟩:=hrel;by_cases zI:e<c
    ·have zl:(u:Int)<(s:Int)-1:=dg
     have zB:e<B.length:=dg;obtain⟨y,hy⟩:=af (B[e]?.getD 0);obtain⟨Q,T⟩:=gM B e zB;rw[hy]at Q T;obtain⟨v,hv⟩:=af (u+1);have Yk:(u:Int)+1=(v:Int):=dg;have Yh:u<v:=dg;have F:(P++B.take e).length=u:=by have:=HA.out;rw[aI,cF];omega
     have X:(P++B.take e++[x]++B.drop e++S).length=n:=by have:=HN.out;simp only[aI,cF,de,cN,en]at*;omega
     have hd:P++B.take e++[x]++B.drop e++S=(P++B.take e)++[x]++[y]++(B.drop (e+1)++S):=by rw[T];simp[cd]
     have l:=o.out;rw[hd]at l X;have L:((P++B.take e)++[x]++[y]++(B.drop (e+1)++S))[u]?.getD 0=x:=by rw[<-F];exact(lX _ _ _ _).1
     have M:((P++B.take e)++[x]++[y]++(B.drop (e+1)++S))[v]?.getD 0=y:=by rw[<-hv,<-F];exact(lX _ _ _ _).2
     have c0:wr.cell? (aq d (off+u))=some (Iq x):=by rw[(l.2 u dg).1,L]
     have f0:=(l.2 u dg).2;have c1:wr.cell? (aq d (off+v))=some (Iq y):=by rw[(l.2 v dg).1,M]
     have f1:=(l.2 v dg).2;have Y:Hid (aK ((wr.setCell (aq d (off+u)) (Iq y)).setCell (aq d (off+v)) (Iq x)) d off (P++B.take (e+1)++[x]++B.drop (e+1)++S)):=by have:=ju l u v dg dg;rw[L,M]at this;have zm:=qf (P++B.take e) x y (B.drop (e+1)++S);rw[F,hv]at zm;rw[zm]at this;show aK _ _ _ _;rw[Q];simpa[cd]using this
     have HG:Hid (w.grownBy ((wr.setCell (aq d (off+u)) (Iq y)).setCell (aq d (off+v)) (Iq x)) (some d)):=
      grown_trans C (grown_trans (dA _ _ _ _) (dA _ _ _ _));have UO:(u:Int)<(n:Int):=dg
     have Yl:(v:Int)<(n:Int):=dg;have Yt:IntKind.i64.wrap (v:Int)=(v:Int):=IntWalk.i64_in _ ⟨dg,dg⟩;clear l hd L M Q T hy X F hv o C;go_wp2;go_big_region;go_wp2;go_roundw;case rel=>exact⟨e+1,v,dg,dg,rfl,dg,Y,dM HG⟩
     case measure=>simp[intOf];omega
    ·have zl:¬(u:Int)<(s:Int)-1:=dg
     obtain rfl:e=c:=dg;go_wp2;try simp only[Exit.inBlock,Exit.then]
     refine bodyPost_ret (results_none rfl _ _ _) rfl ?_;exact⟨rfl,⟨B.take e,B.drop e,(eH _ _).symm,zt,zu,by simpa[cd]using o.out⟩,C⟩
theorem wW d i j(hi:i<d.length)(a:j<d.length):swp d i j=swp d j i:=by grind[rP,kR,Ae]
theorem D7(g:Nat)(lb:Array Fd)(eg:∀args w,(callFunc g args).run prog w=.ok (.enter g args) w)(cf:Int->Int->Int)(D:zzc)(R:Int->Int->Prop)(hO:Ord cf D R)(w0:AT)(P A:zzc)(y:Int)(S:zzc)(d off zB:Nat)(J:ud g lb cf D w0 d)(w:AT)(zq:w0.grownBy w (some d))(h:aK w d off (P++A++[y]++S))(hy:y∈D)(hA:∀x∈A,x∈D)(zg:A.Pairwise R)(hT:∀x∈A,x<y)(zO:2<=A.length)(zk:(P++A++[y]++S).length<=1099511627776):
 Cw 376 #[.slice (some (aq d off)) (P++A++[y]++S).length zB,Iq P.length,Iq ((P.length+A.length:Nat):Int),Iq ((P.length+A.length+1:Nat):Int),.func (.func g) #[] lb] w λe w'=>e=Rw (.tuple #[])/\(∃A1 A2,A=A1++A2/\(∀x∈A1,R x y)/\(∀x∈A2,R y x)/\aK w' d off (P++A1++[y]++A2++S))/\w.grownBy w' (some d):=by
 have HR:=qH<|h;have HO:=qH<|hO;have zA:=qH<|zq;have zx:=qH<|J;have B:=qH<|hy;have f:=qH<|hA;have Y:=qH<|zg;have zy:=qH<|hT;have SI:prog.follows .mixedOrders=true:=pt
 obtain⟨n,hn⟩:=af ((P++A++[y]++S).length);obtain⟨a,ha⟩:=af P.length;obtain⟨b,hb⟩:=af (P.length+A.length+1);obtain⟨m,hm⟩:=af (P.length+A.length);have zP:b<=n:=by rw[<-hb,<-hn];simp only[aI,cN,en];omega
 have zG:¬(m:Int)-(a:Int)=1:=dg;have zC:(b:Int)-(m:Int)=1:=dg;have zN:((m:Int)-(a:Int)==1)=false:=by simpa using zG
 have zI:((b:Int)-(m:Int)==1)=true:=by simpa using zC
 have zL:m<=a+A.length:=dg;have zM:a+A.length<=m:=dg;have zX:m<b:=dg;have HN:=qH<|hn;have HA:=qH<|ha;have HX:Hid ((P++A++[y]++S)[m]?.getD 0=y):=by
  show _=_;have:(P++A).length=m:=by rw[aI];omega
  rw[<-this,cd (P++A),xk (ad _),Nat.sub_self];rfl
 have zw:Hid (∀t,t<A.length->(P++A++[y]++S)[a+t]?.getD 0=A[t]?.getD 0):=by intro t ht;rw[fC,if_pos rn,fC,if_pos rn,fC,if_neg dg];congr 2;omega
 rw[hn]at zk⊢;rw[hb,hm,ha];clear h hO zq J hy hA zg hT hn ha hb hm;go_enter func376,ntmps376;go_wp2;go_loopw[14,15] (λi j wr=>∃s t:Nat,i=Iq s/\j=Iq t/\a<=s/\s<=t/\t<=m/\Hid (∀k,a+k<s->R (A[k]?.getD 0) y)/\Hid (∀k,t<=a+k->k<A.length->R y (A[k]?.getD 0))/\Hid (aK wr d off (P++A++[y]++S))/\Hid (w.grownBy wr (some d))) (λi j _=>(intOf j).toNat-(intOf i).toNat);case atStart=>exact⟨a,m,rfl,rfl,ad _,dg,ad _,λk X=>dg,λk W h2=>dg,HR,cL _ _⟩
 case round=>
  obtain⟨s,t,rfl,rfl,zZ,Yc,zH,zE,zj,p,G⟩:=hrel;by_cases zV:s<t
  ·have zm:(s:Int)<(t:Int):=dg
   obtain⟨q,hq⟩:∃q:Nat,(s+t)/2=q:=⟨_,rfl⟩;have XV:((s:Int)+(t:Int))/2=(q:Int):=dg;have SS:s<=q:=dg;have UC:q<t:=dg;have UE:(q:Int)<(n:Int):=dg;have zY:(m:Int)<(n:Int):=dg;obtain⟨k,X⟩:∃k,q=a+k:=⟨q-a,dg⟩;have N:k<A.length:=dg;obtain⟨x,E⟩:=af (A[k]?.getD 0);have HY:=qH<|E;have HK:=qH<|X;have r:Hid (x∈A):=by show x∈A;rw[<-E];exact dE N
   have zF:=HN.out;have c0:wr.cell? (aq d (off+q))=some (Iq x):=by rw[(p.2 q dg).1,X,zw k N,E]
   have c1:wr.cell? (aq d (off+m))=some (Iq y):=by rw[(p.2 m dg).1,HX.out]
   have K:Hid (Cw g (#[Iq y,Iq x]++lb) wr.drew λe W'=>e=Rw (Iq (cf y x))/\Bq wr W'):=by refine(zx wr.drew (dM (grown_trans zA G)) y B x (f x r)).mono ?_;rintro e w2 ⟨rfl,b2⟩;exact⟨rfl,(ac wr.heap.size wr).drew.trans b2⟩
   obtain⟨z,hz⟩:=af (cf y x);have HZ:=qH<|hz;rw[hz]at K;clear hq X E zF hz;go_wp2_with fail;go_cut[103]from 92 to 103 (λv wx=>v=.bool (!decide (z<0))/\Bq wr wx);case first=>
    go_region_with(refine K.mono ?_;rintro e wq ⟨rfl,bq⟩);all_goals(go_wp2_with fail)
    all_goals go_meet
    all_goals simp_all
   case rest=>
    obtain⟨rfl,bx⟩:=hcut;have Q:=qH<|p.below bx;have zi:=qH<|grown_trans G (grown_below bx);clear p G c0 c1 K;by_cases I:z<0
    ·have zJ:Hid (∀k',q<=a+k'->k'<A.length->R y (A[k']?.getD 0)):=by
      intro k' zD H;have zt:=HO.lt y B x (f x r) (by rw[HZ.out];exact I);by_cases e:k'=k;·subst e;rw[HY.out];exact zt
      ·have O:k<k':=by have:=HK.out;omega
       have W:=ig Y O H;rw[HY.out]at W;exact HO.trans y B x (f x r) _ (f _ (dE H)) zt W
     have hd:(!decide (z<0))=false:=by simp[I]
     rw[hd];go_wp2;go_roundw;case rel=>grind
     case measure=>simp[intOf];omega
    ·have zl:Hid (∀k',a+k'<q+1->R (A[k']?.getD 0) y):=by
      intro k' zD;have zr:=HO.ge x (f x r) y B (zy x r) (by rw[HZ.out];exact I);by_cases e:k'=k;·subst e;rw[HY.out];exact zr
      ·have O:k'<k:=by have:=HK.out;omega
       have W:=ig Y O N;rw[HY.out]at W;exact HO.trans _ (f _ (dE dg)) x (f x r) y B W zr
     have hd:(!decide (z<0))=true:=by simp[I]
     rw[hd];go_wp2;go_roundw;case rel=>exact⟨q+1,t,by go_num,rfl,dg,dg,zH,zl,zj,Q,zi⟩
     case measure=>simp[intOf];omega
  ·have zm:¬(s:Int)<(t:Int):=dg
   obtain rfl:s=t:=dg;obtain⟨c,hc⟩:∃c,s=a+c:=⟨s-a,dg⟩;have zQ:s<=a+c:=dg;have zR:a+c<=s:=dg;have zS:c<=A.length:=dg;have zu:Hid (∀x∈A.take c,R x y):=by intro x E;obtain⟨k,X,_,e⟩:=fY E;rw[<-e];exact zE k dg
   have zv:Hid (∀x∈A.drop c,R y x):=by intro x E;obtain⟨k,X,H,e⟩:=iW E;rw[<-e];exact zj k dg H
   clear hc;go_wp2;go_loopw[17] (λi wr=>∃e u:Nat,a+e<=u/\u<=a+e/\i=Iq u/\c<=e/\e<=A.length/\Hid (aK wr d off (P++A.take e++[y]++A.drop e++S))/\Hid (w.grownBy wr (some d))) (λi _=>(intOf i).toNat);case atStart=>exact⟨A.length,m,dg,dg,rfl,dg,ad _,by simp_all,G⟩
   case round=>
    obtain⟨V,u,UN,Yf,rfl,zU,zT,o,C⟩:=hrel;by_cases zK:c<V
    ·have zn:(s:Int)<(u:Int):=dg
     obtain⟨e,rfl⟩:∃e,V=e+1:=⟨V-1,dg⟩;have zh:e<A.length:=dg;obtain⟨x,E⟩:=af (A[e]?.getD 0);obtain⟨T,U⟩:=gM A e zh;rw[E]at T U;obtain⟨v,hv⟩:∃v,v+1=u:=⟨u-1,dg⟩;have Yk:(u:Int)-1=(v:Int):=dg;have Yh:v<u:=dg;have F:(P++A.take e).length=v:=by have:=HA.out;rw[aI,cF];omega
     have Z:(P++A.take (e+1)++[y]++A.drop (e+1)++S).length=n:=by have:=HN.out;simp only[aI,cF,de,cN,en]at*;omega
     have hd:P++A.take (e+1)++[y]++A.drop (e+1)++S=(P++A.take e)++[x]++[y]++(A.drop (e+1)++S):=by rw[T];simp[cd]
     have l:=o.out;rw[hd]at l Z;have L:((P++A.take e)++[x]++[y]++(A.drop (e+1)++S))[v]?.getD 0=x:=by rw[<-F];exact(lX _ _ _ _).1
     have M:((P++A.take e)++[x]++[y]++(A.drop (e+1)++S))[u]?.getD 0=y:=by rw[<-hv,<-F];exact(lX _ _ _ _).2
     have c0:wr.cell? (aq d (off+v))=some (Iq x):=by rw[(l.2 v dg).1,L]
     have f0:=(l.2 v dg).2;have c1:wr.cell? (aq d (off+u))=some (Iq y):=by rw[(l.2 u dg).1,M]
     have f1:=(l.2 u dg).2;have ze:Hid (aK ((wr.setCell (aq d (off+u)) (Iq x)).setCell (aq d (off+v)) (Iq y)) d off (P++A.take e++[y]++A.drop e++S)):=by have:=ju l u v dg dg;rw[L,M,wW _ _ _ dg dg]at this;have zo:=qf (P++A.take e) x y (A.drop (e+1)++S);rw[F,hv]at zo;rw[zo]at this;show aK _ _ _ _;rw[U];simpa[cd]using this
     have HG:Hid (w.grownBy ((wr.setCell (aq d (off+u)) (Iq x)).setCell (aq d (off+v)) (Iq y)) (some d)):=
      grown_trans C (grown_trans (dA _ _ _ _) (dA _ _ _ _));have UO:(u:Int)<(n:Int):=dg
     have Yl:(v:Int)<(n:Int):=dg;have Yt:IntKind.i64.wrap (v:Int)=(v:Int):=IntWalk.i64_in _ ⟨dg,dg⟩;clear l hd L M T U E Z F hv o C;go_wp2;go_big_region;go_wp2;go_roundw;case rel=>exact⟨e,v,dg,dg,rfl,dg,dg,ze,dM HG⟩
     case measure=>simp[intOf];omega
    ·have zn:¬(s:Int)<(u:Int):=dg
     obtain rfl:V=c:=dg;go_wp2;try simp only[Exit.inBlock,Exit.then]
     refine bodyPost_ret (results_none rfl _ _ _) rfl ?_;exact⟨rfl,⟨A.take V,A.drop V,(eH _ _).symm,zu,zv,by simpa[cd]using o.out⟩,C⟩
theorem MI{g}{D}{R}(f:Ord g D R){X Y:zzc}(o:X.Pairwise R)(p:Y.Pairwise R)(a:∀x∈X,x∈D)(b:∀y∈Y,y∈D)i j(hi:i<=X.length)(h:0<i->j<Y.length->R (X[i-1]?.getD 0) (Y[j]?.getD 0)):∀x∈X.take i,∀y∈Y.drop j,R x y:=by
 intro x q y hy;obtain⟨k,r,c,rfl⟩:=fY q;obtain⟨l,s,d,rfl⟩:=iW hy;have m:=h dg dg;have n:R (X[k]?.getD 0) (Y[j]?.getD 0):=by
  by_cases e:k=i-1;·grind
  ·exact f.trans _ (a _ (dE c)) _ (a _ (dE dg)) _ (b _ (dE dg)) (ig o dg dg) m
 by_cases e:l=j;·grind
 ·exact f.trans _ (a _ (dE c)) _ (b _ (dE dg)) _ (b _ (dE d)) n (ig p dg d)
theorem Dd(a b c d e f:zzc)(g:e.Perm (a++c))(h:f.Perm (b++d)):(e++f).Perm ((a++b)++(c++d)):=rn
theorem Dc{R}(a b c d e f:zzc)(g:e.Perm (a++c))(h:f.Perm (b++d))(k:e.Pairwise R)(l:f.Pairwise R)(i:(a++b).Pairwise R)(j:(c++d).Pairwise R)(c1:∀x∈a,∀y∈d,R x y)(c2:∀x∈c,∀y∈b,R x y):(e++f).Pairwise R:=rn
def oF(w w':AT)(blk off:Nat)(R:Int->Int->Prop)(P A B S:zzc):Prop:=
 (∃M:List Int,M.Perm (A++B)/\M.Pairwise R/\aK w' blk off (P++M++S))/\w.grownBy w' (some blk)
def MB(g:Nat)(lb:Array Fd)(cf:Int->Int->Int)(D:zzc)(R:Int->Int->Prop)(w0:AT)(blk off cap:Nat)(N:Nat):Prop:=
 ∀(P A B S:zzc) (w:AT) (n a m b:Nat),A.length+B.length<=N->w0.grownBy w (some blk)->aK w blk off (P++A++B++S)->(∀x∈A,x∈D)->(∀x∈B,x∈D)->A.Pairwise R->B.Pairwise R->(∀x∈A,∀y∈B,x<y)->0<A.length->0<B.length->(P++A++B++S).length=n->n<=1099511627776->P.length=a->P.length+A.length=m->P.length+A.length+B.length=b->
  Cw 376 #[.slice (some (aq blk off)) n cap,Iq a,Iq m,Iq b,.func (.func g) #[] lb] w λe w'=>e=Rw (.tuple #[])/\oF w w' blk off R P A B S
theorem BB{A:zzc}(h:A.length=1):∃x,A=[x]:=by
 match A,h with
 |[x],_=>exact⟨x,rfl⟩
theorem Il(g:Nat)(lb:Array Fd)(eg:∀args w,(callFunc g args).run prog w=.ok (.enter g args) w)(cf:Int->Int->Int)(D:zzc)(R:Int->Int->Prop)(hO:Ord cf D R)(w0:AT)(f off U:Nat)(zv:ud g lb cf D w0 f)(N:Nat)(IH:MB g lb cf D R w0 f off U N)(P A B S:zzc)(w:AT)(n a m b:Nat)(hN:A.length+B.length<=N+1)(hw0:w0.grownBy w (some f))(h:aK w f off (P++A++B++S))(zZ:∀x∈A,x∈D)(hBD:∀x∈B,x∈D)(hAP:A.Pairwise R)(hBP:B.Pairwise R)(zI:∀x∈A,∀y∈B,x<y)(ZK:2<=A.length)(ZN:2<=B.length)(hn:(P++A++B++S).length=n)(zx:n<=1099511627776)(ha:P.length=a)(hm:P.length+A.length=m)(hb:P.length+A.length+B.length=b):
 Cw 376 #[.slice (some (aq f off)) n U,Iq a,Iq m,Iq b,.func (.func g) #[] lb] w λe w'=>e=Rw (.tuple #[])/\oF w w' f off R P A B S:=by
 have HR:=qH<|h;have HO:=qH<|hO;have zD:=qH<|hw0;have zP:=qH<|zv;have HI:=qH<|IH;have I:=qH<|zZ;have J:=qH<|hBD;have X:=qH<|hAP;have Y:=qH<|hBP;have HT:=qH<|zI;have SI:prog.follows .mixedOrders=true:=pt
 have ZW:b<=n:=by rw[<-hb,<-hn];simp only[aI];omega
 have Xv:((m:Int)-(a:Int)==1)=false:=by
  have:¬(m:Int)-(a:Int)=1:=dg;simpa using this
 have WY:((b:Int)-(m:Int)==1)=false:=by
  have:¬(b:Int)-(m:Int)=1:=dg;simpa using this
 have Xt:m<=a+A.length:=dg;have Xu:a+A.length<=m:=dg;have WU:b<=m+B.length:=dg;have WV:m+B.length<=b:=dg;have HN:=qH<|hn;have HA:=qH<|ha;have zL:Hid (∀t,t<A.length->(P++A++B++S)[a+t]?.getD 0=A[t]?.getD 0):=by intro t ht;rw[fC,if_pos rn,fC,if_pos rn,fC,if_neg dg];congr 2;omega
 have zM:Hid (∀t,t<B.length->(P++A++B++S)[m+t]?.getD 0=B[t]?.getD 0):=by intro t ht;rw[fC,if_pos rn,fC,if_neg rn];congr 2;simp only[aI];omega
 obtain⟨d,SG⟩:∃d:Nat,(a+b)/2=d:=⟨_,rfl⟩;have Uv:((a:Int)+(b:Int))/2=(d:Int):=dg;have Ut:a+b<=2*d+1:=dg;have Uu:2*d<=a+b:=dg;obtain⟨n',Xz⟩:∃n':Nat,d+m=n':=⟨_,rfl⟩;have XL:(d:Int)+(m:Int)=(n':Int):=dg;obtain⟨p,hp⟩:∃p:Nat,n'-1=p:=⟨_,rfl⟩;have _r:(n':Int)-1=(p:Int):=dg;have zT:Hid (p+1=d+m/\n'=d+m):=⟨dg,dg⟩;have _o:n'<=2199023255552:=dg;have Qc:p<=2199023255552:=dg;obtain⟨sb,X9⟩:∃sb:Int,(n':Int)-(b:Int)=sb:=⟨_,rfl⟩;have zy:sb=(d:Int)+(m:Int)-(b:Int):=dg;have VL:=qH<|zy;have S7:-2199023255552<=sb:=dg
 have S8:sb<=2199023255552:=dg;clear h hO hw0 zv IH zZ hBD hAP hBP zI hn ha hm hb SG Xz hp zy;go_enter func376,ntmps376;go_upto_if 140 with fail;go_cut[20,21]from 140 to 146 (λi j wx=>∃V W:Nat,i=Iq V/\j=Iq W/\a<=V/\V<=W/\W<=m/\W<=d/\d+m<=V+b/\Hid ((d+m<=V+b/\V+b<=d+m/\d<=W)\/(V=a/\W=m))/\w=wx);case first=>
  by_cases L:d<m
  ·have Uf:(d:Int)<(m:Int):=dg
   go_wp2_with fail;go_meet;exact⟨d+m-b,d,rn,rfl,dg,dg,dg,ad _,dg,Or.inl ⟨dg,dg,ad _⟩,rfl⟩
  ·have Uf:¬(d:Int)<(m:Int):=dg
   go_wp2_with fail;go_meet;exact⟨a,m,rfl,rfl,ad _,dg,ad _,dg,dg,Or.inr ⟨rfl,rfl⟩,rfl⟩
 case rest=>
  obtain⟨V,W,rfl,rfl,has,Ya,S6,UK,X_,HD,rfl⟩:=hcut;clear X9 S7 S8 VL;go_wp2;go_loopw[20,21] (λi j wr=>∃s r:Nat,i=Iq s/\j=Iq r/\V<=s/\s<=r/\r<=W/\Hid (V<s->R (A[s-1-a]?.getD 0) (B[d-s]?.getD 0))/\Hid (r<W->R (B[d-1-r]?.getD 0) (A[r-a]?.getD 0))/\Hid (aK wr f off (P++A++B++S))/\Hid (w.grownBy wr (some f))) (λi j _=>(intOf j).toNat-(intOf i).toNat);case atStart=>exact⟨V,W,rfl,rfl,ad _,Ya,ad _,λh=>dg,λh=>dg,HR,cL _ _⟩
  case round=>
   obtain⟨s,r,rfl,rfl,UL,Yb,UG,zH,zE,G,zg⟩:=hrel;by_cases zI:s<r
   ·have NS:(s:Int)<(r:Int):=dg
    obtain⟨q,hq⟩:∃q:Nat,(s+r)/2=q:=⟨_,rfl⟩;have XV:((s:Int)+(r:Int))/2=(q:Int):=dg;have SS:s<=q:=dg;have UC:q<r:=dg;have UE:(q:Int)<(n:Int):=dg;obtain⟨u,hu⟩:∃u:Nat,d+m-1-q=u:=⟨_,rfl⟩;have _A:(p:Int)-(q:Int)=(u:Int):=by have:=zT.out;omega
    have UO:(u:Int)<(n:Int):=dg;have HU:Hid (u=m+(d-1-q)):=by show _=_;omega
    have _F:IntKind.i64.wrap (u:Int)=(u:Int):=IntWalk.i64_in _ ⟨dg,dg⟩;have zF:q-a<A.length:=dg;have zG:d-1-q<B.length:=dg;obtain⟨x,F⟩:=af (A[q-a]?.getD 0);obtain⟨y,hy⟩:=af (B[d-1-q]?.getD 0);have zX:=qH<|F;have zY:=qH<|hy;have zq:Hid (x∈A):=by show x∈A;rw[<-F];exact dE zF
    have zr:Hid (y∈B):=by show y∈B;rw[<-hy];exact dE zG
    have Xr:=HN.out;have c0:wr.cell? (aq f (off+q))=some (Iq x):=by rw[(G.2 q dg).1,show q=a+(q-a)by omega,zL _ zF,F]
    have c1:wr.cell? (aq f (off+u))=some (Iq y):=by rw[(G.2 u dg).1,HU.out,zM _ zG,hy]
    have O:Hid (Cw g (#[Iq y,Iq x]++lb) wr.drew λe W'=>e=Rw (Iq (cf y x))/\Bq wr W'):=by refine(zP wr.drew (dM (grown_trans zD zg)) y (J y zr) x (I x zq)).mono ?_;rintro e H ⟨rfl,b2⟩;exact⟨rfl,(ac wr.heap.size wr).drew.trans b2⟩
    obtain⟨z,hz⟩:=af (cf y x);have HZ:=qH<|hz;rw[hz]at O;clear hq F hy Xr hz hu zF zG;go_wp2_with fail;go_cut[171]from 158 to 171 (λv wx=>v=.bool (!decide (z<0))/\Bq wr wx);case first=>
     go_region_with(refine O.mono ?_;rintro e wq ⟨rfl,bq⟩);all_goals(go_wp2_with fail)
     all_goals go_meet
     all_goals exact⟨rfl,bq⟩
    case rest=>
     obtain⟨rfl,bx⟩:=hcut;have zh:=qH<|G.below bx;have zw:=qH<|grown_trans zg (grown_below bx);clear G zg c0 c1 O;by_cases zt:z<0
     ·have St:Hid (q<W->R (B[d-1-q]?.getD 0) (A[q-a]?.getD 0)):=by intro _;rw[zX.out,zY.out];exact HO.lt y (J y zr) x (I x zq) (by rw[HZ.out];exact zt)
      have hd:(!decide (z<0))=false:=by simp[zt]
      rw[hd];go_wp2;go_roundw;case rel=>exact⟨s,q,rfl,rfl,UL,dg,dg,zH,St,zh,zw⟩
      case measure=>simp[intOf];omega
     ·have SD:Hid (V<q+1->R (A[q+1-1-a]?.getD 0) (B[d-(q+1)]?.getD 0)):=by intro _;rw[show q+1-1-a=q-a by omega,show d-(q+1)=d-1-q by omega,zX.out,zY.out];exact HO.ge x (I x zq) y (J y zr) (HT x zq y zr) (by rw[HZ.out];exact zt)
      have hd:(!decide (z<0))=true:=by simp[zt]
      rw[hd];go_wp2;go_roundw;case rel=>exact⟨q+1,r,by go_num,rfl,dg,dg,UG,SD,zE,zh,zw⟩
      case measure=>simp[intOf];omega
   ·have NS:¬(s:Int)<(r:Int):=dg
    obtain rfl:s=r:=dg;obtain⟨e,he⟩:∃e:Nat,d+m-s=e:=⟨_,rfl⟩;have Z':(n':Int)-(s:Int)=(e:Int):=by have:=zT.out;omega
    have Uh:e+s<=d+m:=dg;have Z_:d+m<=e+s:=dg;obtain⟨C,zl⟩:=af (A.take (s-a));obtain⟨k,zm⟩:=af (A.drop (s-a));obtain⟨E,zn⟩:=af (B.take (d-s));obtain⟨o,zo⟩:=af (B.drop (d-s));have Z:Hid (C.length=s-a):=by show _=_;rw[<-zl,cF];omega
    have Q:Hid (k.length=m-s):=by show _=_;rw[<-zm,de];omega
    have T:Hid (E.length=d-s):=by show _=_;rw[<-zn,cF];omega
    have zk:Hid (o.length=b-e):=by show _=_;rw[<-zo,de];omega
    have EA:Hid (A=C++k):=by show _=_;rw[<-zl,<-zm,eH]
    have EB:Hid (B=E++o):=by show _=_;rw[<-zn,<-zo,eH]
    have X1:Hid (∀x∈C,∀y∈o,R x y):=by
     show∀x∈C,∀y∈o,R x y;rw[<-zl,<-zo];refine MI HO X Y I J _ _ dg λM h1=>?_;have zK:V<s:=by rcases HD.out with⟨d1,d2,d3⟩|⟨d1,d2⟩<;>omega
     have:=zH zK;rwa[show s-1-a=s-a-1 by omega]at this
    have X2:Hid (∀x∈E,∀y∈k,R x y):=by
     show∀x∈E,∀y∈k,R x y;rw[<-zn,<-zm];refine MI HO Y X J I _ _ dg λM h1=>?_;have zK:s<W:=by rcases HD.out with⟨d1,d2,d3⟩|⟨d1,d2⟩<;>omega
     have:=zE zK;rwa[show d-1-s=d-s-1 by omega]at this
    clear zl zm zn zo zH zE he zL zM zP HD;have PA:Hid (C.Pairwise R/\k.Pairwise R/\E.Pairwise R/\o.Pairwise R):=by have h1:=X.out;rw[EA.out]at h1;have h2:=Y.out;rw[EB.out]at h2;exact⟨(gS.1 h1).1,(gS.1 h1).2.1,(gS.1 h2).1,(gS.1 h2).2.1⟩
    have MA:Hid ((∀x∈C,x∈A)/\(∀x∈k,x∈A)/\(∀x∈E,x∈B)/\(∀x∈o,x∈B)):=by refine⟨?_,?_,?_,?_⟩<;>intro x F<;>first|(rw[EA.out];exact iD.2 (Or.inl F))|(rw[EA.out];exact iD.2 (Or.inr F))|(rw[EB.out];exact iD.2 (Or.inl F))|(rw[EB.out];exact iD.2 (Or.inr F))
    have zB:Hid (aK wr f off (P++C++k++E++(o++S))):=by have:=G.out;rw[EA.out,EB.out]at this;show aK _ _ _ _;simpa[cd]using this
    have zj:Hid (P.length+C.length+k.length+E.length+o.length+S.length=n):=by have:=HN.out;rw[EA.out,EB.out]at this;show _=_;simp only[aI]at this;omega
    have O:Hid (s<m->s<d->Cw 379 #[.slice (some (aq f off)) n U,Iq s,Iq m,Iq e,.func (.func g) #[] lb] wr λe w'=>e=Rw (.tuple #[])/\aK w' f off (P++C++E++(k++o++S))/\w.grownBy w' (some f)):=by
     intro h1 h2;have:=Z.out;have:=Q.out;have:=T.out;have:=HA.out;have:=zj.out;have e0:(P++C++k++E++(o++S)).length=n:=by simp only[aI];omega
     have e1:(P++C).length=s:=by simp only[aI];omega
     have e2:(P++C).length+k.length=m:=by simp only[aI];omega
     have e3:(P++C).length+k.length+E.length=e:=by simp only[aI];omega
     have c:=yQ (P++C) k E (o++S) f off U (.func (.func g) #[] lb) wr zB dg dg dg;rw[e3,e2,e1,e0]at c;refine c.mono ?_;rintro ex w' ⟨rfl,r1,g1⟩;exact⟨rfl,by simpa[cd]using r1,grown_trans zg g1⟩
    have zN:Hid (∀H,aK H f off (P++C++E++(k++o++S))->w.grownBy H (some f)->a<s->s<d->Cw 376 #[.slice (some (aq f off)) n U,Iq a,Iq s,Iq d,.func (.func g) #[] lb] H λe w'=>e=Rw (.tuple #[])/\(∃l:List Int,l.Perm (C++E)/\l.Pairwise R/\aK w' f off (P++l++(k++o++S)))/\w.grownBy w' (some f)):=by intro H zJ ze h1 h2;have:=Z.out;have:=Q.out;have:=T.out;have:=zk.out;have:=HA.out;have:=zj.out;refine(HI P C E (k++o++S) H n a s d dg (grown_trans zD ze) zJ (λx F=>I x (MA.1 x F)) (λx F=>J x (MA.2.2.1 x F)) PA.1 PA.2.2.1 (λx F y hy=>HT x (MA.1 x F) y (MA.2.2.1 y hy)) dg dg (by simp only[aI];omega) zx HA dg dg).mono ?_;rintro ex w' ⟨rfl,m1,g1⟩;exact⟨rfl,m1,grown_trans ze g1⟩
    have zO:Hid (∀l:List Int,l.Perm (C++E)->∀H,aK H f off (P++l++(k++o++S))->w.grownBy H (some f)->s<m->e<b->Cw 376 #[.slice (some (aq f off)) n U,Iq d,Iq e,Iq b,.func (.func g) #[] lb] H λe w'=>e=Rw (.tuple #[])/\(∃K:List Int,K.Perm (k++o)/\K.Pairwise R/\aK w' f off (P++l++K++S))/\w.grownBy w' (some f)):=by
     intro l WG H zJ ze h1 h2;have:=Z.out;have:=Q.out;have:=T.out;have:=zk.out;have:=HA.out;have:=zj.out;have hl:=WG.length_eq;rw[aI]at hl;have XY:aK H f off ((P++l)++k++o++S):=by simpa[cd]using zJ
     refine(HI (P++l) k o S H n d e b dg (grown_trans zD ze) XY (λx F=>I x (MA.2.1 x F)) (λx F=>J x (MA.2.2.2 x F)) PA.2.1 PA.2.2.2 (λx F y hy=>HT x (MA.2.1 x F) y (MA.2.2.2 y hy)) dg dg (by simp only[aI];omega) zx (by simp only[aI];omega) (by simp only[aI];omega) (by simp only[aI];omega)).mono ?_;rintro ex w' ⟨rfl,m1,g1⟩;exact⟨rfl,m1,grown_trans ze g1⟩
    have zu:Hid (∀l K:List Int,∀w',l.Perm (C++E)->l.Pairwise R->K.Perm (k++o)->K.Pairwise R->aK w' f off (P++l++K++S)->w.grownBy w' (some f)->oF w w' f off R P A B S):=by
     intro l K w' h1 p1 h2 p2 hr hg;refine⟨⟨l++K,?_,?_,by simpa[cd]using hr⟩,hg⟩;·rw[EA.out,EB.out];exact Dd _ _ _ _ _ _ h1 h2
     ·have h3:=X.out;rw[EA.out]at h3;have h4:=Y.out;rw[EB.out]at h4;exact Dc C k E o l K h1 h2 p1 p2 h3 h4 X1 X2
    have zi:Hid (m<=s\/d<=s->aK wr f off (P++C++E++(k++o++S))):=by
     intro L;have:=Q.out;have:=T.out;have M:=zB.out;rcases L with L|L;·rw[ka (show k.length=0 by omega)]at M⊢;simpa[cd]using M
     ·rw[ka (show E.length=0 by omega)]at M⊢;simpa[cd]using M
    have Sl:Hid (s<=a\/d<=s->(C++E).Pairwise R):=by
     intro L;have:=Z.out;have:=T.out;rcases L with L|L;·rw[ka (show C.length=0 by omega)];exact PA.2.2.1
     ·rw[ka (show E.length=0 by omega),iC];exact PA.1
    have Sm:Hid (m<=s\/b<=e->(k++o).Pairwise R):=by
     intro L;have:=Q.out;have:=zk.out;rcases L with L|L;·rw[ka (show k.length=0 by omega)];exact PA.2.2.2
     ·rw[ka (show o.length=0 by omega),iC];exact PA.2.1
    have Y_:e<=b:=dg;clear G zB EA EB X1 X2 PA MA zj Z Q T zk HI X Y I J HT HO HN;have zR:Hid (∀H,aK H f off (P++C++E++(k++o++S))->(s<=a\/d<=s)->∃l:List Int,l.Perm (C++E)/\l.Pairwise R/\aK H f off (P++l++(k++o++S))):=λH h L=>⟨C++E,IU _,Sl L,rn⟩;have zS:Hid (∀l w3,aK w3 f off (P++l++(k++o++S))->(m<=s\/b<=e)->∃K:List Int,K.Perm (k++o)/\K.Pairwise R/\aK w3 f off (P++l++K++S)):=λl w3 h L=>⟨k++o,IU _,Sm L,by simpa[cd]using h⟩;by_cases i1:(s:Int)<(m:Int)<;>by_cases i2:(m:Int)<(e:Int)<;>by_cases i3:(a:Int)<(s:Int)<;>by_cases i4:(s:Int)<(d:Int)<;>by_cases i5:(d:Int)<(e:Int)<;>by_cases i6:(e:Int)<(b:Int)<;>try(exfalso;omega)
    all_goals
     first
      |(have M:=O dg dg;go_wp2_with fail;refine ag M ?_;clear M;rintro ex H ⟨rfl,r2,g2⟩)
      |(have r2:=zi dg;have g2:=zg.out)
     have zC:=qH<|r2;have zA:=qH<|g2;clear r2 g2 O zi;first
      |(have M:=zN _ zC zA dg dg;go_wp2_with fail;refine ag M ?_;clear M;rintro ex w3 ⟨rfl,⟨l,q1,q2,r3⟩,g3⟩)
      |(obtain⟨l,q1,q2,r3⟩:=zR _ zC dg;have g3:=zA.out)
     have zU:=qH<|q1;have VI:=qH<|q2;have zV:=qH<|r3;have zQ:=qH<|g3;clear q1 q2 r3 g3 zC zA zN zR;first
      |(have M:=zO l zU _ zV zQ dg dg;go_wp2_with fail;refine ag M ?_;clear M;rintro ex w4 ⟨rfl,⟨K,q3,q4,r4⟩,g4⟩)
      |(obtain⟨K,q3,q4,r4⟩:=zS l _ zV dg;have g4:=zQ.out)
     have HZ:=qH<|zu l K _ zU VI q3 q4 r4 g4;clear q3 q4 r4 g4 zu zO zS;go_wp2;go_end0;exact⟨rfl,HZ⟩
theorem BE(g:Nat)t(z:∀args w,(callFunc g args).run prog w=.ok (.enter g args) w)p D R(C:Ord p D R)u e off f(d:ud g t p D u e):∀N,MB g t p D R u e off f N
 |0=>λP A B S w n a m b J l h i j q s k H v F o E I K=>dg
 |N+1=>λP A B S w n a m b J l h i j q s k H v F o E I K=>by
  by_cases U:A.length=1;·obtain⟨x,rfl⟩:=BB U;have c:=Im g t z p D R C u P x B S e off f d w l h (i x At) j s (λy hy=>k x At y hy) v dg;rw[F,E,show a+1=m by omega,show m+B.length=b by omega]at c;refine c.mono ?_;rintro T w' ⟨rfl,⟨O,Q,rfl,X,Y,r⟩,G⟩;refine⟨rfl,⟨O++[x]++Q,?_,?_,rn⟩,G⟩;all_goals grind
  ·by_cases V:B.length=1;·obtain⟨y,rfl⟩:=BB V;have c:=D7 g t z p D R C u P A y S e off f d w l h (j y At) i q (λx W=>k x W y At) dg dg;rw[F,show P.length+A.length+1=b by omega,I,E]at c;refine c.mono ?_;rintro T w' ⟨rfl,⟨L,M,rfl,X,Y,r⟩,G⟩;refine⟨rfl,⟨L++[y]++M,?_,?_,rn⟩,G⟩;all_goals grind
   ·exact Il g t z p D R C u e off f d N (BE g t z p D R C u e off f d N) P A B S w n a m b J l h i j q s k dg dg F o E I K
