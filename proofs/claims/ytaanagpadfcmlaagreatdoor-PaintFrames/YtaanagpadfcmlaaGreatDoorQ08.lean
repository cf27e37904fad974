import Derived.Test.YtaanagpadfcmlaaGreatDoorQ00
import Derived.Deep.RegionWith
import Derived.Deep.CutRange
import Derived.Test.YtaanagpadfcmlaaGreatDoorQ03
import Derived.Test.YtaanagpadfcmlaaGreatDoorQ02
set_option linter.all false
set_option maxRecDepth 100000
set_option maxHeartbeats 16000000
namespace Go.Proofs.YtaanagpadfcmlaaGreatDoor
open Go.RowKit Go.Proofs.Tryz
def vW(g:Nat)(lb:Array Value)(cf:Int->Int->Int)(D:List Int)(w0:World)(blk:Nat):Prop:=
 ∀W,w0.grownBy W (some blk)->∀x∈D,∀y∈D,Cw g (#[Iq x,Iq y]++lb) W λe W'=>e=Rw (Iq (cf x y))/\Bt W W'
structure Ord(cf:Int->Int->Int)(D:List Int)(R:Int->Int->Prop):Prop where
 lt:∀x∈D,∀y∈D,cf x y<0->R x y
 ge:∀x∈D,∀y∈D,x<y->¬cf y x<0->R x y
 trans:∀x∈D,∀y∈D,∀z∈D,R x y->R y z->R x z
 bd:∀x∈D,∀y∈D,-1<=cf x y/\cf x y<=1
theorem jr{R}{B:List Int}(h:B.Pairwise R){i j}(b:i<j)(c:j<B.length):R (B[i]?.getD 0) (B[j]?.getD 0):=by rw[dI c,dI dg];exact Kg.1 h i j dg c b
theorem eS{B:List Int}{i}(hi:i<B.length):B[i]?.getD 0∈B:=rd
theorem iB{B:List Int}{c}{y}(h:y∈B.take c):∃k,k<c/\k<B.length/\B[k]?.getD 0=y:=by obtain⟨k,b,e⟩:=o_.1 h;rw[b_]at b;refine⟨k,dg,dg,?_⟩;grind
theorem kw{B:List Int}{c}{y}(h:y∈B.drop c):∃k,c<=k/\k<B.length/\B[k]?.getD 0=y:=by obtain⟨k,b,e⟩:=o_.1 h;rw[cL]at b;refine⟨c+k,dg,dg,?_⟩;grind
theorem nR(X:List Int)p q Y:(X++[p]++[q]++Y)[X.length]?.getD 0=p/\(X++[p]++[q]++Y)[X.length+1]?.getD 0=q:=rd
theorem rY X p q Y:swp (X++[p]++[q]++Y) X.length (X.length+1)=X++[q]++[p]++Y:=by have:=uj X [p] [] [q] Y rfl;simp only[jH,dP,fP,nK,aZ]at this;exact this
theorem jc(B:List Int)e(h:e<B.length):B.take (e+1)=B.take e++[B[e]?.getD 0]/\B.drop e=[B[e]?.getD 0]++B.drop (e+1):=by simp_all
theorem JV(g:Nat)(lb:Array Value)(eg:∀args w,(callFunc g args).run prog w=.ok (.enter g args) w)(cf:Int->Int->Int)(D:List Int)(R:Int->Int->Prop)(hO:Ord cf D R)(w0:World)(P:List Int)(x:Int)(B S:List Int)(d off zw:Nat)(J:vW g lb cf D w0 d)(w:World)(zk:w0.grownBy w (some d))(h:aV w d off (P++[x]++B++S))(hx:x∈D)(hB:∀y∈B,y∈D)(Z:B.Pairwise R)(hT:∀y∈B,x<y)(zI:0<B.length)(zc:(P++[x]++B++S).length<=1099511627776):
 Cw 276 #[.slice (some (aj d off)) (P++[x]++B++S).length zw,Iq P.length,Iq ((P.length+1:Nat):Int),Iq ((P.length+1+B.length:Nat):Int),.func (.func g) #[] lb] w λe w'=>e=Rw (.tuple #[])/\(∃B1 B2,B=B1++B2/\(∀y∈B1,R y x)/\(∀y∈B2,R x y)/\aV w' d off (P++B1++[x]++B2++S))/\w.grownBy w' (some d):=by
 have HR:=qH<|h;have HO:=qH<|hO;have zv:=qH<|zk;have zt:=qH<|J;have C:=qH<|hx;have l:=qH<|hB;have W:=qH<|Z;have zu:=qH<|hT;obtain⟨n,hn⟩:=ad ((P++[x]++B++S).length);obtain⟨a,ha⟩:=ad P.length;obtain⟨b,hb⟩:=ad (P.length+1+B.length);obtain⟨m,hm⟩:=ad (P.length+1);have zK:b<=n:=by rw[<-hb,<-hn];simp only[aU,dP,fP];omega
 have zQ:(m:Int)-(a:Int)=1:=dg;have zC:b<=m+B.length:=dg;have zD:m+B.length<=b:=dg;have zF:m<=a+1:=dg;have zG:a+1<=m:=dg;have HN:=qH<|hn;have HA:=qH<|ha;have HX:Hid ((P++[x]++B++S)[a]?.getD 0=x):=by show _=_;rw[<-ha];simp[cM]
 have zr:Hid (∀t,t<B.length->(P++[x]++B++S)[m+t]?.getD 0=B[t]?.getD 0):=by intro t ht;rw[gO,if_pos rd,gO,if_neg rd];congr 2;simp only[aU,dP,fP];omega
 rw[hn]at zc⊢;rw[hb,hm,ha];clear h hO zk J hx hB Z hT hn ha hb hm;go_enter func276,ntmps276;go_wp2;go_loopw[10,11] (λi j wr=>∃s t:Nat,i=Iq s/\j=Iq t/\m<=s/\s<=t/\t<=b/\Hid (∀k,m+k<s->R (B[k]?.getD 0) x)/\Hid (∀k,t<=m+k->k<B.length->R x (B[k]?.getD 0))/\Hid (aV wr d off (P++[x]++B++S))/\Hid (w.grownBy wr (some d))) (λi j _=>(intOf j).toNat-(intOf i).toNat);case atStart=>exact⟨m,b,rfl,rfl,ae _,dg,ae _,λk V=>dg,λk h1 h2=>dg,HR,dx _ _⟩
 case round=>
  obtain⟨s,t,rfl,rfl,zA,zV,zB,ze,za,r,H⟩:=hrel;by_cases zP:s<t
  ·have zh:(s:Int)<(t:Int):=dg
   obtain⟨q,hq⟩:∃q:Nat,(s+t)/2=q:=⟨_,rfl⟩;have zT:((s:Int)+(t:Int))/2=(q:Int):=dg;have zR:s<=q:=dg;have zS:q<t:=dg;have zU:(q:Int)<(n:Int):=dg;have zJ:(a:Int)<(n:Int):=dg;obtain⟨k,V⟩:∃k,q=m+k:=⟨q-m,dg⟩;have O:k<B.length:=dg;obtain⟨y,hy⟩:=ad (B[k]?.getD 0);have HY:=qH<|hy;have HK:=qH<|V;have A:Hid (y∈B):=by show y∈B;rw[<-hy];exact eS O
   have zz:=HN.out;have c0:wr.cell? (aj d (off+q))=some (Iq y):=by rw[(r.2 q dg).1,V,zr k O,hy]
   have c1:wr.cell? (aj d (off+a))=some (Iq x):=by rw[(r.2 a dg).1,HX.out]
   have L:Hid (Cw g (#[Iq y,Iq x]++lb) wr.drew λe W'=>e=Rw (Iq (cf y x))/\Bt wr W'):=by refine(zt wr.drew (fe (grown_trans zv H)) y (l y A) x C).mono ?_;rintro e w2 ⟨rfl,b2⟩;exact⟨rfl,(af wr.heap.size wr).drew.trans b2⟩
   obtain⟨z,hz⟩:=ad (cf y x);have HZ:=qH<|hz;rw[hz]at L;clear hq V hy zz hz;go_wp2_with fail;go_cut[50]from 40 to 50 (λv wx=>v=.bool (decide (z<0))/\Bt wr wx);case first=>
    go_region_with(refine L.mono ?_;rintro e wq ⟨rfl,bq⟩);all_goals(go_wp2_with fail)
    all_goals go_meet
    all_goals simp_all
   case rest=>
    obtain⟨rfl,bx⟩:=hcut;have F:=qH<|r.below bx;have K:=qH<|grown_trans H (grown_below bx);clear r H c0 c1 L;by_cases zn:z<0
    ·have zg:Hid (∀k',m+k'<q+1->R (B[k']?.getD 0) x):=by
      intro k' zy;have zm:=HO.lt y (l y A) x C (by rw[HZ.out];exact zn);by_cases e:k'=k;·subst e;rw[HY.out];exact zm
      ·have Q:k'<k:=by have:=HK.out;omega
       have h1:=jr W Q O;rw[HY.out]at h1;exact HO.trans _ (l _ (eS dg)) y (l y A) x C h1 zm
     go_wp2;go_roundw;case rel=>exact⟨q+1,t,by go_num,rfl,dg,dg,zB,zg,za,F,K⟩
     case measure=>simp[intOf];omega
    ·have zb:Hid (∀k',q<=m+k'->k'<B.length->R x (B[k']?.getD 0)):=by
      intro k' zy I;have zl:=HO.ge x C y (l y A) (zu y A) (by rw[HZ.out];exact zn);by_cases e:k'=k;·subst e;rw[HY.out];exact zl
      ·have Q:k<k':=by have:=HK.out;omega
       have h1:=jr W Q I;rw[HY.out]at h1;exact HO.trans x C y (l y A) _ (l _ (eS I)) zl h1
     go_wp2;go_roundw;case rel=>exact⟨s,q,rfl,rfl,zA,dg,dg,ze,zb,F,K⟩
     case measure=>simp[intOf];omega
  ·have zh:¬(s:Int)<(t:Int):=dg
   obtain rfl:s=t:=dg;obtain⟨c,hc⟩:∃c,s=m+c:=⟨s-m,dg⟩;have zH:=qH<|hc;have zL:s<=m+c:=dg
   have zM:m+c<=s:=dg;have zN:c<=B.length:=dg;have zo:Hid (∀y∈B.take c,R y x):=by intro y hy;obtain⟨k,V,_,e⟩:=iB hy;rw[<-e];exact ze k dg
   have zq:Hid (∀y∈B.drop c,R x y):=by intro y hy;obtain⟨k,V,I,e⟩:=kw hy;rw[<-e];exact za k dg I
   clear hc;go_wp2;go_loopw[13] (λi wr=>∃e u:Nat,a+e<=u/\u<=a+e/\i=Iq u/\e<=c/\Hid (aV wr d off (P++B.take e++[x]++B.drop e++S))/\Hid (w.grownBy wr (some d))) (λi _=>s-(intOf i).toNat);case atStart=>exact⟨0,a,dg,dg,rfl,aR _,by simp_all,H⟩
   case round=>
    obtain⟨e,u,zX,zY,rfl,zO,p,E⟩:=hrel;by_cases zE:e<c
    ·have zi:(u:Int)<(s:Int)-1:=dg
     have zx:e<B.length:=dg;obtain⟨y,hy⟩:=ad (B[e]?.getD 0);obtain⟨T,U⟩:=jc B e zx;rw[hy]at T U;obtain⟨v,hv⟩:=ad (u+1);have YY:(u:Int)+1=(v:Int):=dg;have YT:u<v:=dg;have G:(P++B.take e).length=u:=by have:=HA.out;rw[aU,b_];omega
     have X:(P++B.take e++[x]++B.drop e++S).length=n:=by have:=HN.out;simp only[aU,b_,cL,dP,fP]at*;omega
     have hd:P++B.take e++[x]++B.drop e++S=(P++B.take e)++[x]++[y]++(B.drop (e+1)++S):=by rw[U];simp[cM]
     have o:=p.out;rw[hd]at o X;have M:((P++B.take e)++[x]++[y]++(B.drop (e+1)++S))[u]?.getD 0=x:=by rw[<-G];exact(nR _ _ _ _).1
     have N:((P++B.take e)++[x]++[y]++(B.drop (e+1)++S))[v]?.getD 0=y:=by rw[<-hv,<-G];exact(nR _ _ _ _).2
     have c0:wr.cell? (aj d (off+u))=some (Iq x):=by rw[(o.2 u dg).1,M]
     have f0:=(o.2 u dg).2;have c1:wr.cell? (aj d (off+v))=some (Iq y):=by rw[(o.2 v dg).1,N]
     have f1:=(o.2 v dg).2;have Y:Hid (aV ((wr.setCell (aj d (off+u)) (Iq y)).setCell (aj d (off+v)) (Iq x)) d off (P++B.take (e+1)++[x]++B.drop (e+1)++S)):=by have:=kZ o u v dg dg;rw[M,N]at this;have zj:=rY (P++B.take e) x y (B.drop (e+1)++S);rw[G,hv]at zj;rw[zj]at this;show aV _ _ _ _;rw[T];simpa[cM]using this
     have HG:Hid (w.grownBy ((wr.setCell (aj d (off+u)) (Iq y)).setCell (aj d (off+v)) (Iq x)) (some d)):=
      grown_trans E (grown_trans (eJ _ _ _ _) (eJ _ _ _ _));have zZ:(u:Int)<(n:Int):=dg
     have YZ:(v:Int)<(n:Int):=dg;have Y5:IntKind.i64.wrap (v:Int)=(v:Int):=IntWalk.i64_in _ ⟨dg,dg⟩;clear o hd M N T U hy X G hv p E;go_wp2;go_big_region;go_wp2;go_roundw;case rel=>exact⟨e+1,v,dg,dg,rfl,dg,Y,fe HG⟩
     case measure=>simp[intOf];omega
    ·have zi:¬(u:Int)<(s:Int)-1:=dg
     obtain rfl:e=c:=dg;go_wp2;try simp only[Exit.inBlock,Exit.then]
     refine bodyPost_ret (results_none rfl _ _ _) rfl ?_;exact⟨rfl,⟨B.take e,B.drop e,(fy _ _).symm,zo,zq,by simpa[cM]using p.out⟩,E⟩
theorem yU d i j(hi:i<d.length)(b:j<d.length):swp d i j=swp d j i:=by grind[tW,mA,CJ]
theorem Gj(g:Nat)(lb:Array Value)(eg:∀args w,(callFunc g args).run prog w=.ok (.enter g args) w)(cf:Int->Int->Int)(D:List Int)(R:Int->Int->Prop)(hO:Ord cf D R)(w0:World)(P A:List Int)(y:Int)(S:List Int)(d off zx:Nat)(K:vW g lb cf D w0 d)(w:World)(zm:w0.grownBy w (some d))(h:aV w d off (P++A++[y]++S))(hy:y∈D)(hA:∀x∈A,x∈D)(zb:A.Pairwise R)(hT:∀x∈A,x<y)(zK:2<=A.length)(zh:(P++A++[y]++S).length<=1099511627776):
 Cw 276 #[.slice (some (aj d off)) (P++A++[y]++S).length zx,Iq P.length,Iq ((P.length+A.length:Nat):Int),Iq ((P.length+A.length+1:Nat):Int),.func (.func g) #[] lb] w λe w'=>e=Rw (.tuple #[])/\(∃A1 A2,A=A1++A2/\(∀x∈A1,R x y)/\(∀x∈A2,R y x)/\aV w' d off (P++A1++[y]++A2++S))/\w.grownBy w' (some d):=by
 have HR:=qH<|h;have HO:=qH<|hO;have zw:=qH<|zm;have zu:=qH<|K;have C:=qH<|hy;have l:=qH<|hA;have Y:=qH<|zb;have zv:=qH<|hT;have zV:prog.follows .mixedOrders=true:=ns
 obtain⟨n,hn⟩:=ad ((P++A++[y]++S).length);obtain⟨a,ha⟩:=ad P.length;obtain⟨b,hb⟩:=ad (P.length+A.length+1);obtain⟨m,hm⟩:=ad (P.length+A.length);have zL:b<=n:=by rw[<-hb,<-hn];simp only[aU,dP,fP];omega
 have zC:¬(m:Int)-(a:Int)=1:=dg;have zy:(b:Int)-(m:Int)=1:=dg;have zJ:((m:Int)-(a:Int)==1)=false:=by simpa using zC
 have zE:((b:Int)-(m:Int)==1)=true:=by simpa using zy
 have zH:m<=a+A.length:=dg;have zI:a+A.length<=m:=dg;have zS:m<b:=dg;have HN:=qH<|hn;have HA:=qH<|ha;have HX:Hid ((P++A++[y]++S)[m]?.getD 0=y):=by
  show _=_;have:(P++A).length=m:=by rw[aU];omega
  rw[<-this,cM (P++A),NS (ae _),Nat.sub_self];rfl
 have zt:Hid (∀t,t<A.length->(P++A++[y]++S)[a+t]?.getD 0=A[t]?.getD 0):=by intro t ht;rw[gO,if_pos rd,gO,if_pos rd,gO,if_neg dg];congr 2;omega
 rw[hn]at zh⊢;rw[hb,hm,ha];clear h hO zm K hy hA zb hT hn ha hb hm;go_enter func276,ntmps276;go_wp2;go_loopw[14,15] (λi j wr=>∃s t:Nat,i=Iq s/\j=Iq t/\a<=s/\s<=t/\t<=m/\Hid (∀k,a+k<s->R (A[k]?.getD 0) y)/\Hid (∀k,t<=a+k->k<A.length->R y (A[k]?.getD 0))/\Hid (aV wr d off (P++A++[y]++S))/\Hid (w.grownBy wr (some d))) (λi j _=>(intOf j).toNat-(intOf i).toNat);case atStart=>exact⟨a,m,rfl,rfl,ae _,dg,ae _,λk X=>dg,λk h1 h2=>dg,HR,dx _ _⟩
 case round=>
  obtain⟨s,t,rfl,rfl,zU,Pl,zD,zA,zg,r,H⟩:=hrel;by_cases zR:s<t
  ·have zj:(s:Int)<(t:Int):=dg
   obtain⟨q,hq⟩:∃q:Nat,(s+t)/2=q:=⟨_,rfl⟩;have zZ:((s:Int)+(t:Int))/2=(q:Int):=dg;have zX:s<=q:=dg;have zY:q<t:=dg;have Th:(q:Int)<(n:Int):=dg;have zT:(m:Int)<(n:Int):=dg;obtain⟨k,X⟩:∃k,q=a+k:=⟨q-a,dg⟩;have O:k<A.length:=dg;obtain⟨x,F⟩:=ad (A[k]?.getD 0);have HY:=qH<|F;have HK:=qH<|X;have B:Hid (x∈A):=by show x∈A;rw[<-F];exact eS O
   have zB:=HN.out;have c0:wr.cell? (aj d (off+q))=some (Iq x):=by rw[(r.2 q dg).1,X,zt k O,F]
   have c1:wr.cell? (aj d (off+m))=some (Iq y):=by rw[(r.2 m dg).1,HX.out]
   have L:Hid (Cw g (#[Iq y,Iq x]++lb) wr.drew λe W'=>e=Rw (Iq (cf y x))/\Bt wr W'):=by refine(zu wr.drew (fe (grown_trans zw H)) y C x (l x B)).mono ?_;rintro e w2 ⟨rfl,b2⟩;exact⟨rfl,(af wr.heap.size wr).drew.trans b2⟩
   obtain⟨z,hz⟩:=ad (cf y x);have HZ:=qH<|hz;rw[hz]at L;clear hq X F zB hz;go_wp2_with fail;go_cut[103]from 92 to 103 (λv wx=>v=.bool (!decide (z<0))/\Bt wr wx);case first=>
    go_region_with(refine L.mono ?_;rintro e wq ⟨rfl,bq⟩);all_goals(go_wp2_with fail)
    all_goals go_meet
    all_goals simp_all
   case rest=>
    obtain⟨rfl,bx⟩:=hcut;have T:=qH<|r.below bx;have ze:=qH<|grown_trans H (grown_below bx);clear r H c0 c1 L;by_cases J:z<0
    ·have zF:Hid (∀k',q<=a+k'->k'<A.length->R y (A[k']?.getD 0)):=by
      intro k' zz I;have zo:=HO.lt y C x (l x B) (by rw[HZ.out];exact J);by_cases e:k'=k;·subst e;rw[HY.out];exact zo
      ·have Q:k<k':=by have:=HK.out;omega
       have h1:=jr Y Q I;rw[HY.out]at h1;exact HO.trans y C x (l x B) _ (l _ (eS I)) zo h1
     have hd:(!decide (z<0))=false:=by simp[J]
     rw[hd];go_wp2;go_roundw;case rel=>grind
     case measure=>simp[intOf];omega
    ·have zi:Hid (∀k',a+k'<q+1->R (A[k']?.getD 0) y):=by
      intro k' zz;have zn:=HO.ge x (l x B) y C (zv x B) (by rw[HZ.out];exact J);by_cases e:k'=k;·subst e;rw[HY.out];exact zn
      ·have Q:k'<k:=by have:=HK.out;omega
       have h1:=jr Y Q O;rw[HY.out]at h1;exact HO.trans _ (l _ (eS dg)) x (l x B) y C h1 zn
     have hd:(!decide (z<0))=true:=by simp[J]
     rw[hd];go_wp2;go_roundw;case rel=>exact⟨q+1,t,by go_num,rfl,dg,dg,zD,zi,zg,T,ze⟩
     case measure=>simp[intOf];omega
  ·have zj:¬(s:Int)<(t:Int):=dg
   obtain rfl:s=t:=dg;obtain⟨c,hc⟩:∃c,s=a+c:=⟨s-a,dg⟩;have zM:s<=a+c:=dg;have zN:a+c<=s:=dg;have zO:c<=A.length:=dg;have zq:Hid (∀x∈A.take c,R x y):=by intro x F;obtain⟨k,X,_,e⟩:=iB F;rw[<-e];exact zA k dg
   have zr:Hid (∀x∈A.drop c,R y x):=by intro x F;obtain⟨k,X,I,e⟩:=kw F;rw[<-e];exact zg k dg I
   clear hc;go_wp2;go_loopw[17] (λi wr=>∃e u:Nat,a+e<=u/\u<=a+e/\i=Iq u/\c<=e/\e<=A.length/\Hid (aV wr d off (P++A.take e++[y]++A.drop e++S))/\Hid (w.grownBy wr (some d))) (λi _=>(intOf i).toNat);case atStart=>exact⟨A.length,m,dg,dg,rfl,dg,ae _,by simp_all,H⟩
   case round=>
    obtain⟨W,u,Vk,hu2,rfl,zQ,zP,p,E⟩:=hrel;by_cases zG:c<W
    ·have zk:(s:Int)<(u:Int):=dg
     obtain⟨e,rfl⟩:∃e,W=e+1:=⟨W-1,dg⟩;have zc:e<A.length:=dg;obtain⟨x,F⟩:=ad (A[e]?.getD 0);obtain⟨U,V⟩:=jc A e zc;rw[F]at U V;obtain⟨v,hv⟩:∃v,v+1=u:=⟨u-1,dg⟩;have YY:(u:Int)-1=(v:Int):=dg;have YT:v<u:=dg;have G:(P++A.take e).length=v:=by have:=HA.out;rw[aU,b_];omega
     have Z:(P++A.take (e+1)++[y]++A.drop (e+1)++S).length=n:=by have:=HN.out;simp only[aU,b_,cL,dP,fP]at*;omega
     have hd:P++A.take (e+1)++[y]++A.drop (e+1)++S=(P++A.take e)++[x]++[y]++(A.drop (e+1)++S):=by rw[U];simp[cM]
     have o:=p.out;rw[hd]at o Z;have M:((P++A.take e)++[x]++[y]++(A.drop (e+1)++S))[v]?.getD 0=x:=by rw[<-G];exact(nR _ _ _ _).1
     have N:((P++A.take e)++[x]++[y]++(A.drop (e+1)++S))[u]?.getD 0=y:=by rw[<-hv,<-G];exact(nR _ _ _ _).2
     have c0:wr.cell? (aj d (off+v))=some (Iq x):=by rw[(o.2 v dg).1,M]
     have f0:=(o.2 v dg).2;have c1:wr.cell? (aj d (off+u))=some (Iq y):=by rw[(o.2 u dg).1,N]
     have f1:=(o.2 u dg).2;have za:Hid (aV ((wr.setCell (aj d (off+u)) (Iq x)).setCell (aj d (off+v)) (Iq y)) d off (P++A.take e++[y]++A.drop e++S)):=by have:=kZ o u v dg dg;rw[M,N,yU _ _ _ dg dg]at this;have zl:=rY (P++A.take e) x y (A.drop (e+1)++S);rw[G,hv]at zl;rw[zl]at this;show aV _ _ _ _;rw[V];simpa[cM]using this
     have HG:Hid (w.grownBy ((wr.setCell (aj d (off+u)) (Iq x)).setCell (aj d (off+v)) (Iq y)) (some d)):=
      grown_trans E (grown_trans (eJ _ _ _ _) (eJ _ _ _ _));have YS:(u:Int)<(n:Int):=dg
     have YZ:(v:Int)<(n:Int):=dg;have Y5:IntKind.i64.wrap (v:Int)=(v:Int):=IntWalk.i64_in _ ⟨dg,dg⟩;clear o hd M N U V F Z G hv p E;go_wp2;go_big_region;go_wp2;go_roundw;case rel=>exact⟨e,v,dg,dg,rfl,dg,dg,za,fe HG⟩
     case measure=>simp[intOf];omega
    ·have zk:¬(s:Int)<(u:Int):=dg
     obtain rfl:W=c:=dg;go_wp2;try simp only[Exit.inBlock,Exit.then]
     refine bodyPost_ret (results_none rfl _ _ _) rfl ?_;exact⟨rfl,⟨A.take W,A.drop W,(fy _ _).symm,zq,zr,by simpa[cM]using p.out⟩,E⟩
theorem Nq{n}{D}{R}(m:Ord n D R){X Y:List Int}(p:X.Pairwise R)(q:Y.Pairwise R)(b:∀x∈X,x∈D)(c:∀y∈Y,y∈D)i j(hi:i<=X.length)(h:0<i->j<Y.length->R (X[i-1]?.getD 0) (Y[j]?.getD 0)):∀x∈X.take i,∀y∈Y.drop j,R x y:=by
 intro x r y hy;obtain⟨k,t,d,rfl⟩:=iB r;obtain⟨l,u,g,rfl⟩:=kw hy;have o:=h dg dg;have h1:R (X[k]?.getD 0) (Y[j]?.getD 0):=by
  by_cases e:k=i-1;·grind
  ·exact m.trans _ (b _ (eS d)) _ (b _ (eS dg)) _ (c _ (eS dg)) (jr p dg dg) o
 by_cases e:l=j;·grind
 ·exact m.trans _ (b _ (eS d)) _ (c _ (eS dg)) _ (c _ (eS g)) h1 (jr q dg g)
theorem E'(b c d e g h:List Int)(h1:g.Perm (b++d))(k:h.Perm (c++e)):(g++h).Perm ((b++c)++(d++e)):=rd
theorem E_{R}(b c d e g h:List Int)(h1:g.Perm (b++d))(k:h.Perm (c++e))(n:g.Pairwise R)(o:h.Pairwise R)(l:(b++c).Pairwise R)(m:(d++e).Pairwise R)(c1:∀x∈b,∀y∈e,R x y)(c2:∀x∈d,∀y∈c,R x y):(g++h).Pairwise R:=rd
def qi(w w':World)(blk off:Nat)(R:Int->Int->Prop)(P A B S:List Int):Prop:=
 (∃M:List Int,M.Perm (A++B)/\M.Pairwise R/\aV w' blk off (P++M++S))/\w.grownBy w' (some blk)
def Nf(g:Nat)(lb:Array Value)(cf:Int->Int->Int)(D:List Int)(R:Int->Int->Prop)(w0:World)(blk off cap:Nat)(N:Nat):Prop:=
 ∀(P A B S:List Int) (w:World) (n a m b:Nat),A.length+B.length<=N->w0.grownBy w (some blk)->aV w blk off (P++A++B++S)->(∀x∈A,x∈D)->(∀x∈B,x∈D)->A.Pairwise R->B.Pairwise R->(∀x∈A,∀y∈B,x<y)->0<A.length->0<B.length->(P++A++B++S).length=n->n<=1099511627776->P.length=a->P.length+A.length=m->P.length+A.length+B.length=b->
  Cw 276 #[.slice (some (aj blk off)) n cap,Iq a,Iq m,Iq b,.func (.func g) #[] lb] w λe w'=>e=Rw (.tuple #[])/\qi w w' blk off R P A B S
theorem DR{A:List Int}(h:A.length=1):∃x,A=[x]:=by
 match A,h with
 |[x],_=>exact⟨x,rfl⟩
theorem JU(g:Nat)(lb:Array Value)(eg:∀args w,(callFunc g args).run prog w=.ok (.enter g args) w)(cf:Int->Int->Int)(D:List Int)(R:Int->Int->Prop)(hO:Ord cf D R)(w0:World)(k off V:Nat)(zt:vW g lb cf D w0 k)(N:Nat)(IH:Nf g lb cf D R w0 k off V N)(P A B S:List Int)(w:World)(n a m b:Nat)(hN:A.length+B.length<=N+1)(hw0:w0.grownBy w (some k))(h:aV w k off (P++A++B++S))(zV:∀x∈A,x∈D)(zY:∀x∈B,x∈D)(zX:A.Pairwise R)(zZ:B.Pairwise R)(zF:∀x∈A,∀y∈B,x<y)(_C:2<=A.length)(_D:2<=B.length)(hn:(P++A++B++S).length=n)(zv:n<=1099511627776)(ha:P.length=a)(hm:P.length+A.length=m)(hb:P.length+A.length+B.length=b):
 Cw 276 #[.slice (some (aj k off)) n V,Iq a,Iq m,Iq b,.func (.func g) #[] lb] w λe w'=>e=Rw (.tuple #[])/\qi w w' k off R P A B S:=by
 have HR:=qH<|h;have HO:=qH<|hO;have zA:=qH<|hw0;have zM:=qH<|zt;have HI:=qH<|IH;have J:=qH<|zV;have K:=qH<|zY;have Y:=qH<|zX;have Z:=qH<|zZ;have HT:=qH<|zF;have Q8:prog.follows .mixedOrders=true:=ns
 have UA:b<=n:=by rw[<-hb,<-hn];simp only[aU];omega
 have Ym:((m:Int)-(a:Int)==1)=false:=by
  have:¬(m:Int)-(a:Int)=1:=dg;simpa using this
 have XO:((b:Int)-(m:Int)==1)=false:=by
  have:¬(b:Int)-(m:Int)=1:=dg;simpa using this
 have Yk:m<=a+A.length:=dg;have Yl:a+A.length<=m:=dg;have Pd:b<=m+B.length:=dg;have XI:m+B.length<=b:=dg;have HN:=qH<|hn;have HA:=qH<|ha;have zI:Hid (∀t,t<A.length->(P++A++B++S)[a+t]?.getD 0=A[t]?.getD 0):=by intro t ht;rw[gO,if_pos rd,gO,if_pos rd,gO,if_neg dg];congr 2;omega
 have zJ:Hid (∀t,t<B.length->(P++A++B++S)[m+t]?.getD 0=B[t]?.getD 0):=by intro t ht;rw[gO,if_pos rd,gO,if_neg rd];congr 2;simp only[aU];omega
 obtain⟨d,S1⟩:∃d:Nat,(a+b)/2=d:=⟨_,rfl⟩;have UX:((a:Int)+(b:Int))/2=(d:Int):=dg;have UV:a+b<=2*d+1:=dg;have UW:2*d<=a+b:=dg;obtain⟨n',Yq⟩:∃n':Nat,d+m=n':=⟨_,rfl⟩;have hni:(d:Int)+(m:Int)=(n':Int):=dg;obtain⟨p,hp⟩:∃p:Nat,n'-1=p:=⟨_,rfl⟩;have hpi:(n':Int)-1=(p:Int):=dg;have zQ:Hid (p+1=d+m/\n'=d+m):=⟨dg,dg⟩;have hnb:n'<=2199023255552:=dg;have Pk:p<=2199023255552:=dg;obtain⟨sb,Tj⟩:∃sb:Int,(n':Int)-(b:Int)=sb:=⟨_,rfl⟩;have zw:sb=(d:Int)+(m:Int)-(b:Int):=dg;have WP:=qH<|zw;have Tk:-2199023255552<=sb:=dg
 have Tl:sb<=2199023255552:=dg;clear h hO hw0 zt IH zV zY zX zZ zF hn ha hm hb S1 Yq hp zw;go_enter func276,ntmps276;go_upto_if 140 with fail;go_cut[20,21]from 140 to 146 (λi j wx=>∃W X:Nat,i=Iq W/\j=Iq X/\a<=W/\W<=X/\X<=m/\X<=d/\d+m<=W+b/\Hid ((d+m<=W+b/\W+b<=d+m/\d<=X)\/(W=a/\X=m))/\w=wx);case first=>
  by_cases M:d<m
  ·have UB:(d:Int)<(m:Int):=dg
   go_wp2_with fail;go_meet;exact⟨d+m-b,d,rd,rfl,dg,dg,dg,ae _,dg,Or.inl ⟨dg,dg,ae _⟩,rfl⟩
  ·have UB:¬(d:Int)<(m:Int):=dg
   go_wp2_with fail;go_meet;exact⟨a,m,rfl,rfl,ae _,dg,ae _,dg,dg,Or.inr ⟨rfl,rfl⟩,rfl⟩
 case rest=>
  obtain⟨W,X,rfl,rfl,has,YN,Qq,Vh,YL,HD,rfl⟩:=hcut;clear Tj Tk Tl WP;go_wp2;go_loopw[20,21] (λi j wr=>∃s r:Nat,i=Iq s/\j=Iq r/\W<=s/\s<=r/\r<=X/\Hid (W<s->R (A[s-1-a]?.getD 0) (B[d-s]?.getD 0))/\Hid (r<X->R (B[d-1-r]?.getD 0) (A[r-a]?.getD 0))/\Hid (aV wr k off (P++A++B++S))/\Hid (w.grownBy wr (some k))) (λi j _=>(intOf j).toNat-(intOf i).toNat);case atStart=>exact⟨W,X,rfl,rfl,ae _,YN,ae _,λh=>dg,λh=>dg,HR,dx _ _⟩
  case round=>
   obtain⟨s,r,rfl,rfl,Qr,YO,Vg,zE,zB,H,zc⟩:=hrel;by_cases zF:s<r
   ·have Ir:(s:Int)<(r:Int):=dg
    obtain⟨q,hq⟩:∃q:Nat,(s+r)/2=q:=⟨_,rfl⟩;have YB:((s:Int)+(r:Int))/2=(q:Int):=dg;have Te:s<=q:=dg;have Vf:q<r:=dg;have Th:(q:Int)<(n:Int):=dg;obtain⟨u,hu⟩:∃u:Nat,d+m-1-q=u:=⟨_,rfl⟩;have hui:(p:Int)-(q:Int)=(u:Int):=by have:=zQ.out;omega
    have YS:(u:Int)<(n:Int):=dg;have HU:Hid (u=m+(d-1-q)):=by show _=_;omega
    have hwu:IntKind.i64.wrap (u:Int)=(u:Int):=IntWalk.i64_in _ ⟨dg,dg⟩;have zC:q-a<A.length:=dg;have zD:d-1-q<B.length:=dg;obtain⟨x,G⟩:=ad (A[q-a]?.getD 0);obtain⟨y,hy⟩:=ad (B[d-1-q]?.getD 0);have zT:=qH<|G;have zU:=qH<|hy;have zn:Hid (x∈A):=by show x∈A;rw[<-G];exact eS zC
    have zo:Hid (y∈B):=by show y∈B;rw[<-hy];exact eS zD
    have Yi:=HN.out;have c0:wr.cell? (aj k (off+q))=some (Iq x):=by rw[(H.2 q dg).1,show q=a+(q-a)by omega,zI _ zC,G]
    have c1:wr.cell? (aj k (off+u))=some (Iq y):=by rw[(H.2 u dg).1,HU.out,zJ _ zD,hy]
    have Q:Hid (Cw g (#[Iq y,Iq x]++lb) wr.drew λe W'=>e=Rw (Iq (cf y x))/\Bt wr W'):=by refine(zM wr.drew (fe (grown_trans zA zc)) y (K y zo) x (J x zn)).mono ?_;rintro e I ⟨rfl,b2⟩;exact⟨rfl,(af wr.heap.size wr).drew.trans b2⟩
    obtain⟨z,hz⟩:=ad (cf y x);have HZ:=qH<|hz;rw[hz]at Q;clear hq G hy Yi hz hu zC zD;go_wp2_with fail;go_cut[171]from 158 to 171 (λv wx=>v=.bool (!decide (z<0))/\Bt wr wx);case first=>
     go_region_with(refine Q.mono ?_;rintro e wq ⟨rfl,bq⟩);all_goals(go_wp2_with fail)
     all_goals go_meet
     all_goals exact⟨rfl,bq⟩
    case rest=>
     obtain⟨rfl,bx⟩:=hcut;have ze:=qH<|H.below bx;have zu:=qH<|grown_trans zc (grown_below bx);clear H zc c0 c1 Q;by_cases zq:z<0
     ·have SH:Hid (q<X->R (B[d-1-q]?.getD 0) (A[q-a]?.getD 0)):=by intro _;rw[zT.out,zU.out];exact HO.lt y (K y zo) x (J x zn) (by rw[HZ.out];exact zq)
      have hd:(!decide (z<0))=false:=by simp[zq]
      rw[hd];go_wp2;go_roundw;case rel=>exact⟨s,q,rfl,rfl,Qr,dg,dg,zE,SH,ze,zu⟩
      case measure=>simp[intOf];omega
     ·have SW:Hid (W<q+1->R (A[q+1-1-a]?.getD 0) (B[d-(q+1)]?.getD 0)):=by intro _;rw[show q+1-1-a=q-a by omega,show d-(q+1)=d-1-q by omega,zT.out,zU.out];exact HO.ge x (J x zn) y (K y zo) (HT x zn y zo) (by rw[HZ.out];exact zq)
      have hd:(!decide (z<0))=true:=by simp[zq]
      rw[hd];go_wp2;go_roundw;case rel=>exact⟨q+1,r,by go_num,rfl,dg,dg,Vg,SW,zB,ze,zu⟩
      case measure=>simp[intOf];omega
   ·have Ir:¬(s:Int)<(r:Int):=dg
    obtain rfl:s=r:=dg;obtain⟨e,he⟩:∃e:Nat,d+m-s=e:=⟨_,rfl⟩;have _X:(n':Int)-(s:Int)=(e:Int):=by have:=zQ.out;omega
    have _V:e+s<=d+m:=dg;have _W:d+m<=e+s:=dg;obtain⟨E,zj⟩:=ad (A.take (s-a));obtain⟨l,zk⟩:=ad (A.drop (s-a));obtain⟨F,zl⟩:=ad (B.take (d-s));obtain⟨C,zm⟩:=ad (B.drop (d-s));have za:Hid (E.length=s-a):=by show _=_;rw[<-zj,b_];omega
    have T:Hid (l.length=m-s):=by show _=_;rw[<-zk,cL];omega
    have U:Hid (F.length=d-s):=by show _=_;rw[<-zl,b_];omega
    have zi:Hid (C.length=b-e):=by show _=_;rw[<-zm,cL];omega
    have EA:Hid (A=E++l):=by show _=_;rw[<-zj,<-zk,fy]
    have EB:Hid (B=F++C):=by show _=_;rw[<-zl,<-zm,fy]
    have X1:Hid (∀x∈E,∀y∈C,R x y):=by
     show∀x∈E,∀y∈C,R x y;rw[<-zj,<-zm];refine Nq HO Y Z J K _ _ dg λO h1=>?_;have zH:W<s:=by rcases HD.out with⟨d1,d2,d3⟩|⟨d1,d2⟩<;>omega
     have:=zE zH;rwa[show s-1-a=s-a-1 by omega]at this
    have X2:Hid (∀x∈F,∀y∈l,R x y):=by
     show∀x∈F,∀y∈l,R x y;rw[<-zl,<-zk];refine Nq HO Z Y K J _ _ dg λO h1=>?_;have zH:s<X:=by rcases HD.out with⟨d1,d2,d3⟩|⟨d1,d2⟩<;>omega
     have:=zB zH;rwa[show d-1-s=d-s-1 by omega]at this
    clear zj zk zl zm zE zB he zI zJ zM HD;have PA:Hid (E.Pairwise R/\l.Pairwise R/\F.Pairwise R/\C.Pairwise R):=by have h1:=Y.out;rw[EA.out]at h1;have h2:=Z.out;rw[EB.out]at h2;exact⟨(je.1 h1).1,(je.1 h1).2.1,(je.1 h2).1,(je.1 h2).2.1⟩
    have MA:Hid ((∀x∈E,x∈A)/\(∀x∈l,x∈A)/\(∀x∈F,x∈B)/\(∀x∈C,x∈B)):=by refine⟨?_,?_,?_,?_⟩<;>intro x G<;>first|(rw[EA.out];exact gF.2 (Or.inl G))|(rw[EA.out];exact gF.2 (Or.inr G))|(rw[EB.out];exact gF.2 (Or.inl G))|(rw[EB.out];exact gF.2 (Or.inr G))
    have zy:Hid (aV wr k off (P++E++l++F++(C++S))):=by have:=H.out;rw[EA.out,EB.out]at this;show aV _ _ _ _;simpa[cM]using this
    have zh:Hid (P.length+E.length+l.length+F.length+C.length+S.length=n):=by have:=HN.out;rw[EA.out,EB.out]at this;show _=_;simp only[aU]at this;omega
    have Q:Hid (s<m->s<d->Cw 292 #[.slice (some (aj k off)) n V,Iq s,Iq m,Iq e,.func (.func g) #[] lb] wr λe w'=>e=Rw (.tuple #[])/\aV w' k off (P++E++F++(l++C++S))/\w.grownBy w' (some k)):=by
     intro h1 h2;have:=za.out;have:=T.out;have:=U.out;have:=HA.out;have:=zh.out;have e0:(P++E++l++F++(C++S)).length=n:=by simp only[aU];omega
     have e1:(P++E).length=s:=by simp only[aU];omega
     have e2:(P++E).length+l.length=m:=by simp only[aU];omega
     have e3:(P++E).length+l.length+F.length=e:=by simp only[aU];omega
     have c:=Cj (P++E) l F (C++S) k off V (.func (.func g) #[] lb) wr zy dg dg dg;rw[e3,e2,e1,e0]at c;refine c.mono ?_;rintro ex w' ⟨rfl,r1,g1⟩;exact⟨rfl,by simpa[cM]using r1,grown_trans zc g1⟩
    have zK:Hid (∀I,aV I k off (P++E++F++(l++C++S))->w.grownBy I (some k)->a<s->s<d->Cw 276 #[.slice (some (aj k off)) n V,Iq a,Iq s,Iq d,.func (.func g) #[] lb] I λe w'=>e=Rw (.tuple #[])/\(∃o:List Int,o.Perm (E++F)/\o.Pairwise R/\aV w' k off (P++o++(l++C++S)))/\w.grownBy w' (some k)):=by intro I zG zb h1 h2;have:=za.out;have:=T.out;have:=U.out;have:=zi.out;have:=HA.out;have:=zh.out;refine(HI P E F (l++C++S) I n a s d dg (grown_trans zA zb) zG (λx G=>J x (MA.1 x G)) (λx G=>K x (MA.2.2.1 x G)) PA.1 PA.2.2.1 (λx G y hy=>HT x (MA.1 x G) y (MA.2.2.1 y hy)) dg dg (by simp only[aU];omega) zv HA dg dg).mono ?_;rintro ex w' ⟨rfl,m1,g1⟩;exact⟨rfl,m1,grown_trans zb g1⟩
    have zL:Hid (∀o:List Int,o.Perm (E++F)->∀I,aV I k off (P++o++(l++C++S))->w.grownBy I (some k)->s<m->e<b->Cw 276 #[.slice (some (aj k off)) n V,Iq d,Iq e,Iq b,.func (.func g) #[] lb] I λe w'=>e=Rw (.tuple #[])/\(∃L:List Int,L.Perm (l++C)/\L.Pairwise R/\aV w' k off (P++o++L++S))/\w.grownBy w' (some k)):=by
     intro o Xz I zG zb h1 h2;have:=za.out;have:=T.out;have:=U.out;have:=zi.out;have:=HA.out;have:=zh.out;have hl:=Xz.length_eq;rw[aU]at hl;have YF:aV I k off ((P++o)++l++C++S):=by simpa[cM]using zG
     refine(HI (P++o) l C S I n d e b dg (grown_trans zA zb) YF (λx G=>J x (MA.2.1 x G)) (λx G=>K x (MA.2.2.2 x G)) PA.2.1 PA.2.2.2 (λx G y hy=>HT x (MA.2.1 x G) y (MA.2.2.2 y hy)) dg dg (by simp only[aU];omega) zv (by simp only[aU];omega) (by simp only[aU];omega) (by simp only[aU];omega)).mono ?_;rintro ex w' ⟨rfl,m1,g1⟩;exact⟨rfl,m1,grown_trans zb g1⟩
    have zr:Hid (∀o L:List Int,∀w',o.Perm (E++F)->o.Pairwise R->L.Perm (l++C)->L.Pairwise R->aV w' k off (P++o++L++S)->w.grownBy w' (some k)->qi w w' k off R P A B S):=by
     intro o L w' h1 p1 h2 p2 hr hg;refine⟨⟨o++L,?_,?_,by simpa[cM]using hr⟩,hg⟩;·rw[EA.out,EB.out];exact E' _ _ _ _ _ _ h1 h2
     ·have h3:=Y.out;rw[EA.out]at h3;have h4:=Z.out;rw[EB.out]at h4;exact E_ E l F C o L h1 h2 p1 p2 h3 h4 X1 X2
    have zg:Hid (m<=s\/d<=s->aV wr k off (P++E++F++(l++C++S))):=by
     intro M;have:=T.out;have:=U.out;have O:=zy.out;rcases M with M|M;·rw[kO (show l.length=0 by omega)]at O⊢;simpa[cM]using O
     ·rw[kO (show F.length=0 by omega)]at O⊢;simpa[cM]using O
    have Sn:Hid (s<=a\/d<=s->(E++F).Pairwise R):=by
     intro M;have:=za.out;have:=U.out;rcases M with M|M;·rw[kO (show E.length=0 by omega)];exact PA.2.2.1
     ·rw[kO (show F.length=0 by omega),jH];exact PA.1
    have So:Hid (m<=s\/b<=e->(l++C).Pairwise R):=by
     intro M;have:=T.out;have:=zi.out;rcases M with M|M;·rw[kO (show l.length=0 by omega)];exact PA.2.2.2
     ·rw[kO (show C.length=0 by omega),jH];exact PA.2.1
    have ZT:e<=b:=dg;clear H zy EA EB X1 X2 PA MA zh za T U zi HI Y Z J K HT HO HN;have zO:Hid (∀I,aV I k off (P++E++F++(l++C++S))->(s<=a\/d<=s)->∃o:List Int,o.Perm (E++F)/\o.Pairwise R/\aV I k off (P++o++(l++C++S))):=λI h M=>⟨E++F,Kh _,Sn M,rd⟩;have zP:Hid (∀o w3,aV w3 k off (P++o++(l++C++S))->(m<=s\/b<=e)->∃L:List Int,L.Perm (l++C)/\L.Pairwise R/\aV w3 k off (P++o++L++S)):=λo w3 h M=>⟨l++C,Kh _,So M,by simpa[cM]using h⟩;by_cases i1:(s:Int)<(m:Int)<;>by_cases i2:(m:Int)<(e:Int)<;>by_cases i3:(a:Int)<(s:Int)<;>by_cases i4:(s:Int)<(d:Int)<;>by_cases i5:(d:Int)<(e:Int)<;>by_cases i6:(e:Int)<(b:Int)<;>try(exfalso;omega)
    all_goals
     first
      |(have O:=Q dg dg;go_wp2_with fail;refine ag O ?_;clear O;rintro ex I ⟨rfl,r2,g2⟩)
      |(have r2:=zg dg;have g2:=zc.out)
     have zz:=qH<|r2;have zx:=qH<|g2;clear r2 g2 Q zg;first
      |(have O:=zK _ zz zx dg dg;go_wp2_with fail;refine ag O ?_;clear O;rintro ex w3 ⟨rfl,⟨o,q1,q2,r3⟩,g3⟩)
      |(obtain⟨o,q1,q2,r3⟩:=zO _ zz dg;have g3:=zx.out)
     have zR:=qH<|q1;have WL:=qH<|q2;have zS:=qH<|r3;have zN:=qH<|g3;clear q1 q2 r3 g3 zz zx zK zO;first
      |(have O:=zL o zR _ zS zN dg dg;go_wp2_with fail;refine ag O ?_;clear O;rintro ex w4 ⟨rfl,⟨L,q3,q4,r4⟩,g4⟩)
      |(obtain⟨L,q3,q4,r4⟩:=zP o _ zS dg;have g4:=zN.out)
     have HZ:=qH<|zr o L _ zR WL q3 q4 r4 g4;clear q3 q4 r4 g4 zr zL zP;go_wp2;go_end0;exact⟨rfl,HZ⟩
theorem DU(g:Nat)C(G:∀args w,(callFunc g args).run prog w=.ok (.enter g args) w)u D R(H:Ord u D R)E e off k(d:vW g C u D E e):∀N,Nf g C u D R E e off k N
 |0=>λP A B S w n a m b O q h l o v z p L F J t I M Q=>dg
 |N+1=>λP A B S w n a m b O q h l o v z p L F J t I M Q=>by
  by_cases h1:A.length=1;·obtain⟨x,rfl⟩:=DR h1;have c:=JV g C G u D R H E P x B S e off k d w q h (l x rn) o z (λy hy=>p x rn y hy) F dg;rw[J,I,show a+1=m by omega,show m+B.length=b by omega]at c;refine c.mono ?_;rintro X w' ⟨rfl,⟨V,W,rfl,x1,x2,r⟩,K⟩;refine⟨rfl,⟨V++[x]++W,?_,?_,rd⟩,K⟩;all_goals grind
  ·by_cases Y:B.length=1;·obtain⟨y,rfl⟩:=DR Y;have c:=Gj g C G u D R H E P A y S e off k d w q h (o y rn) l v (λx Z=>p x Z y rn) dg dg;rw[J,show P.length+A.length+1=b by omega,M,I]at c;refine c.mono ?_;rintro X w' ⟨rfl,⟨T,U,rfl,x1,x2,r⟩,K⟩;refine⟨rfl,⟨T++[y]++U,?_,?_,rd⟩,K⟩;all_goals grind
   ·exact JU g C G u D R H E e off k d N (DU g C G u D R H E e off k d N) P A B S w n a m b O q h l o v z p dg dg J t I M Q
def ea(W:World)(b:Nat)(v:Nat->Value):Prop:=b<W.heap.size/\∀k,k<12->W.cell? (aj b k)=some (v k)/\W.frozen? (aj b k)=false
theorem mT{W c:World}{b}(h:c.heap[b]?=W.heap[b]?)k:c.frozen? (aj b k)=W.frozen? (aj b k):=by unfold World.frozen?;rw[h]
theorem ea.keep{W c}{b}{v}(h:ea W b v)(g:W.heap.size<=c.heap.size)(d:c.heap[b]?=W.heap[b]?):ea c b v:=
 ⟨zz007 h.1 g,λk e=>⟨(bf (a:=(aj b k)) d).trans (h.2 k e).1,(mT d k).trans (h.2 k e).2⟩⟩
theorem ea.grown{W c}{b r}{v}(h:ea W b v)(g:W.grownBy c (some r))(d:b≠r):ea c b v:=h.keep g.size (g.block b h.1 (λe=>d rd))
theorem ea.below{W W'}{b}{v}(h:ea W b v)(g:Bt W W'):ea W' b v:=h.keep g.size (g.block b h.1)
theorem ea.set{W}{b k}{v}(h:ea W b v)(d:k<12)u:ea (W.setCell (aj b k) u) b (λj=>if j=k then u else v j):=by
 refine⟨by simpa[World.setCell]using h.1,λj c=>⟨?_,(fI _ _ _ _).trans (h.2 j c).2⟩⟩;by_cases e:j=k;·subst e;show _=some (if j=j then u else v j);rw[if_pos rfl];exact sF _ _ _ (h.2 j c).1
 ·show _=some (if j=k then u else v j);rw[if_neg e,c_ _ _ _ _ (λq=>rd)];exact(h.2 j c).1
theorem ea.other{W}{b c k}{v}(h:ea W b v)(d:b≠c)u:ea (W.setCell (aj c k) u) b v:=
 h.keep (by simp_all) (bK W (aj c k) u b d)
theorem RS.other{W}{rb b k}{s}{i}{lv}{bad d at_ cO}(h:RS W rb s i lv bad d at_ cO)(e:rb≠b)u:RS (W.setCell (aj b k) u) rb s i lv bad d at_ cO:=by have hh:=bK W (aj b k) u rb e;have c:=λj=>bf (a:=(aj rb j)) hh;exact⟨by simpa[World.setCell]using h.lt,(c 0).trans h.c0,(c 1).trans h.c1,(c 2).trans h.c2,(c 3).trans h.c3,(c 4).trans h.c4,(c 5).trans h.c5,(c 6).trans h.c6,λj=>(mT hh j).trans (h.fz j)⟩
structure AS(w wi:World)(rb ab sb:Nat)(s:ByteArray)(i:Nat)(lv:Value)(bad cO:Int)(f:fA)(j:Nat)(a:List Int)(seen:List Nat):Prop where
 rs:∃er at_,RS wi rb s i lv bad er at_ cO/\FL er at_ f j
 len:a.length=12
 ar:ea wi ab (λk=>Iq (a[k]?.getD 0))
 sr:ea wi sb (λk=>.bool (seen.contains k))
 gr:w.grownBy wi (some rb)
structure AB(w:World)(rb ab sb:Nat):Prop where
 r:rb<w.heap.size
 a:w.heap.size<=ab
 s:w.heap.size<=sb
 ne:ab≠sb
section
variable{w wi wj:World} {rb ab sb:Nat} {s:ByteArray} {i i' j j':Nat} {lv:Value} {bad Ev cO:Int} {f f':fA} {a:List Int} {seen:List Nat}
theorem AS.next(h:AS w wi rb ab sb s i lv bad cO f j a seen)(b:AB w rb ab sb){c at_}(g:RS wj rb s i' lv Ev c at_ cO)(e:FL c at_ f' j')(d:wi.grownBy wj (some rb)):AS w wj rb ab sb s i' lv Ev cO f' j' a seen:=
 ⟨⟨c,at_,g,e⟩,h.len,h.ar.grown d (by have:=b.r;have:=b.a;omega),h.sr.grown d (by have:=b.r;have:=b.s;omega),gr_trans h.gr d⟩
theorem AS.below(h:AS w wi rb ab sb s i lv bad cO f j a seen)(b:Bt wi wj):AS w wj rb ab sb s i lv bad cO f j a seen:=by obtain⟨c,at_,h1,d⟩:=h.rs;exact⟨⟨c,at_,h1.below b,d⟩,h.len,h.ar.below b,h.sr.below b,gr_trans h.gr (eh b)⟩
theorem AS.on(h:AS w wi rb ab sb s i lv bad cO f j a seen)(d:j<=j'):AS w wi rb ab sb s i lv bad cO f j' a seen:=by obtain⟨b,at_,h1,c⟩:=h.rs;exact⟨⟨b,at_,h1,c.on d⟩,h.len,h.ar,h.sr,h.gr⟩
theorem Ij{d W:World}{r b k}{u}(h:d.grownBy W (some r))(l:d.heap.size<=b):d.grownBy (W.setCell (aj b k) u) (some r):=
 ⟨h.os,h.tape,h.output,by simpa[World.setCell]using h.size,λc e g=>(bK W (aj b k) u c rd).trans (h.block c e g)⟩
theorem AS.setA(h:AS w wi rb ab sb s i lv bad cO f j a seen)(b:AB w rb ab sb){k}(c:k<12)n:AS w (wi.setCell (aj ab k) (Iq n)) rb ab sb s i lv bad cO f j (a.set k n) seen:=by
 obtain⟨d,at_,h1,g⟩:=h.rs;have o:=b.r;have l:=b.a;refine⟨⟨d,at_,h1.other dg _,g⟩,by rw[Ki];exact h.len,?_,h.sr.other (λe=>b.ne e.symm) _,Ij h.gr l⟩;have e:(λj=>if j=k then Iq n else Iq (a[j]?.getD 0))=λj=>Iq ((a.set k n)[j]?.getD 0):=by
  funext j;by_cases m:j=k;·subst m;rw[if_pos rfl,Ke (by rw[h.len];exact c)];rfl
  ·grind
 have:=h.ar.set c (Iq n);grind
theorem AS.setS(h:AS w wi rb ab sb s i lv bad cO f j a seen)(b:AB w rb ab sb){k}(l:k<12):AS w (wi.setCell (aj sb k) (.bool true)) rb ab sb s i lv bad cO f j a (k::seen):=by
 obtain⟨c,at_,h1,d⟩:=h.rs;have n:=b.r;have g:=b.s;refine⟨⟨c,at_,h1.other dg _,d⟩,h.len,h.ar.other b.ne _,?_,Ij h.gr g⟩;have e:(λj=>if j=k then Value.bool true else .bool (seen.contains j))=λj=>.bool ((k::seen).contains j):=by
  funext j;by_cases m:j=k;·grind
  ·grind
 have:=h.sr.set l (.bool true);grind
end
def M9(w:World)(rb:Nat)(lv:Value)(L:List Nd):Prop:=(L=[]/\lv=.slice none 0 0)\/∃(g cap:Nat) (AV:Nat->Nat),lv=Sq g L.length cap/\g<w.heap.size/\g≠rb/\∀k,k<L.length->w.cell? (aj g (k*5+1))=some (Sq (AV k) 12 12)/\AV k<w.heap.size/\AV k≠rb/\w.cell? (aj (AV k) 0)=some (Iq ((L.map (λd=>d.attr[0]?.getD 0))[k]?.getD 0))
theorem hasId_take(L:List Nd)n k(b:k<L.length):em (L.take (k+1)) n=(em (L.take k) n||((L.map (λd=>d.attr[0]?.getD 0))[k]?.getD 0==n)):=by unfold em;rw[gG b,Kj];simp[b]
theorem GP f b d c p:bn (b||d) f c p=bn d (bn b f c p) c p:=by cases b<;>cases d<;>cases f<;>rfl
def AI(s:ByteArray)(kind:Nat)(L:List Nd)(R:Except Nat (Nat×fA×List Int))(K_:Int)(more:Bool)(i:Nat)(bad:Int)(f:fA)(a:List Int)(seen:List Nat):Prop:=
 (bad=K_/\more=true/\∃fuel,s.size-i<fuel/\dw s kind L fuel i f a seen=R)\/(bad=K_/\more=false/\jY s i f a=R)\/(0<=bad/\more=false/\R=.error bad.toNat)
theorem AI.round{s}{d}{L}{R}{b}(o:b<0){i}{f}{a}{seen}(hi:i<=s.size){k}(A:s.size-i<k)(h:dw s d L k i f a seen=R):
 AI s d L R b (gB s (bc s i b).i 59 (bc s i b).bad) (mI s (bc s i b).i 59 (bc s i b).bad) (bc s i b).bad (fa d L f a seen (bc s i b)).1 (fa d L f a seen (bc s i b)).2.1 (fa d L f a seen (bc s i b)).2.2
 /\(gB s (bc s i b).i 59 (bc s i b).bad=true->i<mI s (bc s i b).i 59 (bc s i b).bad):=by
 obtain⟨g,rfl⟩:∃g,k=g+1:=⟨k-1,dg⟩;have B:=jw s i b;have y:=rX s i b hi;have n:=lW s d L i f a seen b o;obtain⟨q,t⟩:=ad (fa d L f a seen (bc s i b));rw[t]at n⊢;clear t;obtain⟨f2,z,C⟩:=q;simp only;rcases n with⟨h1,u⟩|⟨h1,u⟩
 ·rw[h1];have p:gB s (bc s i b).i 59 b=aL s (bc s i b).i 59:=by unfold gB;rw[if_pos o]
  have v:mI s (bc s i b).i 59 b=am s (bc s i b).i 59:=by unfold mI;rw[if_pos o]
  rw[p,v];by_cases m:aL s (bc s i b).i 59=true
  ·have l:am s (bc s i b).i 59=sk s (bc s i b).i+1:=by unfold am;rw[if_pos (by grind[aL])]
   have:=du s (bc s i b).i;have r:=dK (c:=59) dg y;rw[l]at r;refine⟨.inl ⟨rfl,m,g,?_,?_⟩,λ_=>dg⟩;all_goals grind[jT]
  ·have l:am s (bc s i b).i 59=sk s (bc s i b).i:=by unfold am;rw[if_neg (by grind[aL])]
   refine⟨.inr (.inl ⟨rfl,rd,?_⟩),λe=>absurd e m⟩;grind[EM,jS]
 ·have x:¬(bc s i b).bad<0:=dg
  have p:gB s (bc s i b).i 59 (bc s i b).bad=false:=by unfold gB;rw[if_neg x]
  rw[p];refine⟨.inr (.inr ⟨h1,rfl,?_⟩),λe=>by cases e⟩;grind[lX]
def I4:Value->Bool
 |.bool b=>b
 |_=>false
