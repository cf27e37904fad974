import Derived.Test.YtehgehanbnkdiaaGreatDoorQ00
import Derived.Deep.RegionWith
import Derived.Deep.CutRange
import Derived.Test.YtehgehanbnkdiaaGreatDoorQ05
import Derived.Test.YtehgehanbnkdiaaGreatDoorQ02
set_option linter.all false
set_option maxRecDepth 100000
set_option maxHeartbeats 16000000
namespace Go.Proofs.YtehgehanbnkdiaaGreatDoor
open Go.RowKit Go.Proofs.Tryz
def uu(g:Nat)(lb:Array Fd)(cf:Int->Int->Int)(D:zzc)(w0:AT)(blk:Nat):Prop:=
 ∀W,w0.grownBy W (some blk)->∀x∈D,∀y∈D,Cw g (#[Iq x,Iq y]++lb) W λe W'=>e=Rw (Iq (cf x y))/\Bq W W'
structure Ord(cf:Int->Int->Int)(D:zzc)(R:Int->Int->Prop):Prop where
 lt:∀x∈D,∀y∈D,cf x y<0->R x y
 ge:∀x∈D,∀y∈D,x<y->¬cf y x<0->R x y
 trans:∀x∈D,∀y∈D,∀z∈D,R x y->R y z->R x z
 bd:∀x∈D,∀y∈D,-1<=cf x y/\cf x y<=1
def iD{R}{B:zzc}(h:B.Pairwise R){i j}(b:i<j)(c:j<B.length):R (B[i]?.getD 0) (B[j]?.getD 0):=by rw[da c,da dg];exact JI.1 h i j dg c b
def dO{B:zzc}{i}(hi:i<B.length):B[i]?.getD 0∈B:=rn
def gt{B:zzc}{c}{y}(h:y∈B.take c):∃k,k<c/\k<B.length/\B[k]?.getD 0=y:=by obtain⟨k,b,e⟩:=mh.1 h;rw[cL]at b;refine⟨k,dg,dg,?_⟩;grind
def ji{B:zzc}{c}{y}(h:y∈B.drop c):∃k,c<=k/\k<B.length/\B[k]?.getD 0=y:=by obtain⟨k,b,e⟩:=mh.1 h;rw[dq]at b;refine⟨c+k,dg,dg,?_⟩;grind
def mu(X:zzc)p q Y:(X++[p]++[q]++Y)[X.length]?.getD 0=p/\(X++[p]++[q]++Y)[X.length+1]?.getD 0=q:=rn
def qp X p q Y:swp (X++[p]++[q]++Y) X.length (X.length+1)=X++[q]++[p]++Y:=by have:=sE X [p] [] [q] Y rfl;simp only[iP,cV,eI,qC,b_]at this;exact this
theorem ia(B:zzc)e(h:e<B.length):B.take (e+1)=B.take e++[B[e]?.getD 0]/\B.drop e=[B[e]?.getD 0]++B.drop (e+1):=by simp_all
def Jk(g:Nat)(lb:Array Fd)(eg:∀args w,(callFunc g args).run prog w=.ok (.enter g args) w)(cf:Int->Int->Int)(D:zzc)(R:Int->Int->Prop)(hO:Ord cf D R)(w0:AT)(P:zzc)(x:Int)(B S:zzc)(d off zB:Nat)(J:uu g lb cf D w0 d)(w:AT)(zo:w0.grownBy w (some d))(h:aO w d off (P++[x]++B++S))(hx:x∈D)(hB:∀y∈B,y∈D)(ze:B.Pairwise R)(hT:∀y∈B,x<y)(zN:0<B.length)(zi:(P++[x]++B++S).length<=1099511627776):
 Cw 376 #[.slice (some (aq d off)) (P++[x]++B++S).length zB,Iq P.length,Iq ((P.length+1:Nat):Int),Iq ((P.length+1+B.length:Nat):Int),.func (.func g) #[] lb] w λe w'=>e=Rw (.tuple #[])/\(∃B1 B2,B=B1++B2/\(∀y∈B1,R y x)/\(∀y∈B2,R x y)/\aO w' d off (P++B1++[x]++B2++S))/\w.grownBy w' (some d):=by
 have HR:=qH<|h;have HO:=qH<|hO;have zA:=qH<|zo;have zx:=qH<|J;have C:=qH<|hx;have l:=qH<|hB;have X:=qH<|ze;have zy:=qH<|hT;obtain⟨n,hn⟩:=af ((P++[x]++B++S).length);obtain⟨a,ha⟩:=af P.length;obtain⟨b,hb⟩:=af (P.length+1+B.length);obtain⟨m,hm⟩:=af (P.length+1);have zP:b<=n:=by rw[<-hb,<-hn];simp only[aN,cV,eI];omega
 have zV:(m:Int)-(a:Int)=1:=dg;have zH:b<=m+B.length:=dg;have zI:m+B.length<=b:=dg;have zK:m<=a+1:=dg;have zL:a+1<=m:=dg;have HN:=qH<|hn;have HA:=qH<|ha;have HX:Hid ((P++[x]++B++S)[a]?.getD 0=x):=qH<|by rw[<-ha];simp[cA]
 have zw:Hid (∀t,t<B.length->(P++[x]++B++S)[m+t]?.getD 0=B[t]?.getD 0):=by intro t ht;rw[fN,if_pos rn,fN,if_neg rn];congr 2;simp only[aN,cV,eI];omega
 rw[hn]at zi|-;rw[hb,hm,ha];clear h hO zo J hx hB ze hT hn ha hb hm;go_enter func376,ntmps376;go_wp2;go_loopw[10,11] (λi j wr=>∃s t:Nat,i=Iq s/\j=Iq t/\m<=s/\s<=t/\t<=b/\Hid (∀k,m+k<s->R (B[k]?.getD 0) x)/\Hid (∀k,t<=m+k->k<B.length->R x (B[k]?.getD 0))/\Hid (aO wr d off (P++[x]++B++S))/\Hid (w.grownBy wr (some d))) (λi j _=>(intOf j).toNat-(intOf i).toNat);.exact⟨m,b,rfl,rfl,LE,dg,LE,λk W=>dg,λk V h2=>dg,HR,cT _ _⟩
 obtain⟨s,t,rfl,rfl,zF,Zb,zG,zj,zg,r,H⟩:=hrel;by_cases zU:s<t
 .have zl:(s:Int)<(t:Int):=dg;obtain⟨q,hq⟩:∃q:Nat,(s+t)/2=q:=⟨_,rfl⟩;have zZ:((s:Int)+(t:Int))/2=(q:Int):=dg;have zX:s<=q:=dg;have zY:q<t:=dg;have TR:(q:Int)<(n:Int):=dg;have zO:(a:Int)<(n:Int):=dg;obtain⟨k,W⟩:∃k,q=m+k:=⟨q-m,dg⟩;have O:k<B.length:=dg;obtain⟨y,hy⟩:=af (B[k]?.getD 0);have HY:=qH<|hy;have HK:=qH<|W;have A:Hid (y∈B):=by show y∈B;rw[<-hy];exact dO O
  have zE:=HN.out;have c0:wr.cell? (aq d (off+q))=some (Iq y):=by rw[(r.2 q dg).1,W,zw k O,hy]
  have c1:wr.cell? (aq d (off+a))=some (Iq x):=by rw[(r.2 a dg).1,HX.out]
  have L:Hid (Cw g (#[Iq y,Iq x]++lb) wr.drew λe W'=>e=Rw (Iq (cf y x))/\Bq wr W'):=by refine Ut (zx wr.drew (dX (grown_trans zA H)) y (l y A) x C) ?_;rintro w2 b2;exact⟨rfl,(ac wr.heap.size wr).drew.trans b2⟩
  obtain⟨z,hz⟩:=af (cf y x);have HZ:=qH<|hz;rw[hz]at L;clear hq W hy zE hz;go_wp2_with fail;go_cut[50]from 40 to 50 (λv wx=>v=.bool (decide (z<0))/\Bq wr wx)
  .go_region_with(refine Ut L ?_;rintro wq bq);all_goals(go_wp2_with fail)
   all_goals go_meet
   all_goals simp_all
  obtain⟨rfl,bx⟩:=hcut;have F:=qH<|r.below bx;have K:=qH<|grown_trans H (grown_below bx);clear r H c0 c1 L;by_cases zt:z<0
  .have zk:Hid (∀k',m+k'<q+1->R (B[k']?.getD 0) x):=by
    intro k' zD;have zr:=HO.lt y (l y A) x C (by rw[HZ.out];exact zt);by_cases e:k'=k;.subst e;rw[HY.out];exact zr
    .have Q:k'<k:=by have:=HK.out;omega
     have V:=iD X Q O;rw[HY.out]at V;exact HO.trans _ (l _ (dO dg)) y (l y A) x C V zr
   go_wp2;go_roundw;.exact⟨q+1,t,by go_num,rfl,dg,dg,zG,zk,zg,F,K⟩
   .simp[intOf];omega
  .have zh:Hid (∀k',q<=m+k'->k'<B.length->R x (B[k']?.getD 0)):=by
    intro k' zD I;have zq:=HO.ge x C y (l y A) (zy y A) (by rw[HZ.out];exact zt);by_cases e:k'=k;.subst e;rw[HY.out];exact zq
    .have Q:k<k':=by have:=HK.out;omega
     have V:=iD X Q I;rw[HY.out]at V;exact HO.trans x C y (l y A) _ (l _ (dO I)) zq V
   go_wp2;go_roundw;.exact⟨s,q,rfl,rfl,zF,dg,dg,zj,zh,F,K⟩
   .simp[intOf];omega
 .have zl:¬(s:Int)<(t:Int):=dg;obtain rfl:s=t:=dg;obtain⟨c,hc⟩:∃c,s=m+c:=⟨s-m,dg⟩;have zM:=qH<|hc;have zQ:s<=m+c:=dg;have zR:m+c<=s:=dg;have zS:c<=B.length:=dg;have zu:Hid (∀y∈B.take c,R y x):=by intro y hy;obtain⟨k,W,_,e⟩:=gt hy;rw[<-e];exact zj k dg
  have zv:Hid (∀y∈B.drop c,R x y):=by intro y hy;obtain⟨k,W,I,e⟩:=ji hy;rw[<-e];exact zg k dg I
  clear hc;go_wp2;go_loopw[13] (λi wr=>∃e u:Nat,a+e<=u/\u<=a+e/\i=Iq u/\e<=c/\Hid (aO wr d off (P++B.take e++[x]++B.drop e++S))/\Hid (w.grownBy wr (some d))) (λi _=>s-(intOf i).toNat);.exact⟨0,a,dg,dg,rfl,LT,by simp_all,H⟩
  obtain⟨e,u,VJ,Ze,rfl,zT,p,E⟩:=hrel;by_cases zJ:e<c
  .have zm:(u:Int)<(s:Int)-1:=dg;have zC:e<B.length:=dg;obtain⟨y,hy⟩:=af (B[e]?.getD 0);obtain⟨T,U⟩:=ia B e zC;rw[hy]at T U;obtain⟨v,hv⟩:=af (u+1);have Zj:(u:Int)+1=(v:Int):=dg;have Zg:u<v:=dg;have G:(P++B.take e).length=u:=by have:=HA.out;rw[aN,cL];omega
   have Y:(P++B.take e++[x]++B.drop e++S).length=n:=by have:=HN.out;simp only[aN,cL,dq,cV,eI]at*;omega
   have hd:P++B.take e++[x]++B.drop e++S=(P++B.take e)++[x]++[y]++(B.drop (e+1)++S):=by rw[U];simp[cA]
   have o:=p.out;rw[hd]at o Y;have M:((P++B.take e)++[x]++[y]++(B.drop (e+1)++S))[u]?.getD 0=x:=by rw[<-G];exact(mu _ _ _ _).1
   have N:((P++B.take e)++[x]++[y]++(B.drop (e+1)++S))[v]?.getD 0=y:=by rw[<-hv,<-G];exact(mu _ _ _ _).2
   have c0:wr.cell? (aq d (off+u))=some (Iq x):=by rw[(o.2 u dg).1,M]
   have f0:=(o.2 u dg).2;have c1:wr.cell? (aq d (off+v))=some (Iq y):=by rw[(o.2 v dg).1,N]
   have f1:=(o.2 v dg).2;have Z:Hid (aO ((wr.setCell (aq d (off+u)) (Iq y)).setCell (aq d (off+v)) (Iq x)) d off (P++B.take (e+1)++[x]++B.drop (e+1)++S)):=by have:=jL o u v dg dg;rw[M,N]at this;have zn:=qp (P++B.take e) x y (B.drop (e+1)++S);rw[G,hv]at zn;rw[zn]at this;show aO _ _ _ _;rw[T];simpa[cA]using this
   have HG:Hid (w.grownBy ((wr.setCell (aq d (off+u)) (Iq y)).setCell (aq d (off+v)) (Iq x)) (some d)):=
    grown_trans E (grown_trans (dI _ _ _ _) (dI _ _ _ _));have VK:(u:Int)<(n:Int):=dg;have VL:(v:Int)<(n:Int):=dg;have Zr:IntKind.i64.wrap (v:Int)=(v:Int):=IntWalk.i64_in _ ⟨dg,dg⟩;clear o hd M N T U hy Y G hv p E;go_wp2;go_big_region;go_wp2;go_roundw;.exact⟨e+1,v,dg,dg,rfl,dg,Z,dX HG⟩
   .simp[intOf];omega
  .have zm:¬(u:Int)<(s:Int)-1:=dg;obtain rfl:e=c:=dg;go_wp2;try simp only[Exit.inBlock,Exit.then]
   refine bodyPost_ret (results_none rfl _ _ _) rfl ?_;exact⟨rfl,⟨B.take e,B.drop e,(eT _ _).symm,zu,zv,by simpa[cA]using p.out⟩,E⟩
def xp d i j(hi:i<d.length)(b:j<d.length):swp d i j=swp d j i:=by grind[r_,lh,AA]
def EU(g:Nat)(lb:Array Fd)(eg:∀args w,(callFunc g args).run prog w=.ok (.enter g args) w)(cf:Int->Int->Int)(D:zzc)(R:Int->Int->Prop)(hO:Ord cf D R)(w0:AT)(P A:zzc)(y:Int)(S:zzc)(d off zC:Nat)(K:uu g lb cf D w0 d)(w:AT)(zr:w0.grownBy w (some d))(h:aO w d off (P++A++[y]++S))(hy:y∈D)(hA:∀x∈A,x∈D)(zh:A.Pairwise R)(hT:∀x∈A,x<y)(zP:2<=A.length)(zl:(P++A++[y]++S).length<=1099511627776):
 Cw 376 #[.slice (some (aq d off)) (P++A++[y]++S).length zC,Iq P.length,Iq ((P.length+A.length:Nat):Int),Iq ((P.length+A.length+1:Nat):Int),.func (.func g) #[] lb] w λe w'=>e=Rw (.tuple #[])/\(∃A1 A2,A=A1++A2/\(∀x∈A1,R x y)/\(∀x∈A2,R y x)/\aO w' d off (P++A1++[y]++A2++S))/\w.grownBy w' (some d):=by
 have HR:=qH<|h;have HO:=qH<|hO;have zB:=qH<|zr;have zy:=qH<|K;have C:=qH<|hy;have l:=qH<|hA;have Z:=qH<|zh;have zA:=qH<|hT;have TD:prog.follows .mixedOrders=true:=pt;obtain⟨n,hn⟩:=af ((P++A++[y]++S).length);obtain⟨a,ha⟩:=af P.length;obtain⟨b,hb⟩:=af (P.length+A.length+1);obtain⟨m,hm⟩:=af (P.length+A.length);have zQ:b<=n:=by rw[<-hb,<-hn];simp only[aN,cV,eI];omega
 have zH:¬(m:Int)-(a:Int)=1:=dg;have zD:(b:Int)-(m:Int)=1:=dg;have zO:((m:Int)-(a:Int)==1)=false:=by simpa using zH
 have zJ:((b:Int)-(m:Int)==1)=true:=by simpa using zD
 have zM:m<=a+A.length:=dg;have zN:a+A.length<=m:=dg;have zY:m<b:=dg;have HN:=qH<|hn;have HA:=qH<|ha;have HX:Hid ((P++A++[y]++S)[m]?.getD 0=y):=by
  show _=_;have:(P++A).length=m:=by rw[aN];omega
  rw[<-this,cA (P++A),xG LE,Nat.sub_self];rfl
 have zx:Hid (∀t,t<A.length->(P++A++[y]++S)[a+t]?.getD 0=A[t]?.getD 0):=by intro t ht;rw[fN,if_pos rn,fN,if_pos rn,fN,if_neg dg];congr 2;omega
 rw[hn]at zl|-;rw[hb,hm,ha];clear h hO zr K hy hA zh hT hn ha hb hm;go_enter func376,ntmps376;go_wp2;go_loopw[14,15] (λi j wr=>∃s t:Nat,i=Iq s/\j=Iq t/\a<=s/\s<=t/\t<=m/\Hid (∀k,a+k<s->R (A[k]?.getD 0) y)/\Hid (∀k,t<=a+k->k<A.length->R y (A[k]?.getD 0))/\Hid (aO wr d off (P++A++[y]++S))/\Hid (w.grownBy wr (some d))) (λi j _=>(intOf j).toNat-(intOf i).toNat);.exact⟨a,m,rfl,rfl,LE,dg,LE,λk Y=>dg,λk X h2=>dg,HR,cT _ _⟩
 obtain⟨s,t,rfl,rfl,Sr,Zb,zI,zF,zk,r,H⟩:=hrel;by_cases zX:s<t
 .have zn:(s:Int)<(t:Int):=dg;obtain⟨q,hq⟩:∃q:Nat,(s+t)/2=q:=⟨_,rfl⟩;have YX:((s:Int)+(t:Int))/2=(q:Int):=dg;have TL:s<=q:=dg;have VC:q<t:=dg;have TR:(q:Int)<(n:Int):=dg;have zZ:(m:Int)<(n:Int):=dg;obtain⟨k,Y⟩:∃k,q=a+k:=⟨q-a,dg⟩;have O:k<A.length:=dg;obtain⟨x,F⟩:=af (A[k]?.getD 0);have HY:=qH<|F;have HK:=qH<|Y;have B:Hid (x∈A):=by show x∈A;rw[<-F];exact dO O
  have zG:=HN.out;have c0:wr.cell? (aq d (off+q))=some (Iq x):=by rw[(r.2 q dg).1,Y,zx k O,F]
  have c1:wr.cell? (aq d (off+m))=some (Iq y):=by rw[(r.2 m dg).1,HX.out]
  have L:Hid (Cw g (#[Iq y,Iq x]++lb) wr.drew λe W'=>e=Rw (Iq (cf y x))/\Bq wr W'):=by refine Ut (zy wr.drew (dX (grown_trans zB H)) y C x (l x B)) ?_;rintro w2 b2;exact⟨rfl,(ac wr.heap.size wr).drew.trans b2⟩
  obtain⟨z,hz⟩:=af (cf y x);have HZ:=qH<|hz;rw[hz]at L;clear hq Y F zG hz;go_wp2_with fail;go_cut[103]from 92 to 103 (λv wx=>v=.bool (!decide (z<0))/\Bq wr wx)
  .go_region_with(refine Ut L ?_;rintro wq bq);all_goals(go_wp2_with fail)
   all_goals go_meet
   all_goals simp_all
  obtain⟨rfl,bx⟩:=hcut;have T:=qH<|r.below bx;have zj:=qH<|grown_trans H (grown_below bx);clear r H c0 c1 L;by_cases J:z<0
  .have zK:Hid (∀k',q<=a+k'->k'<A.length->R y (A[k']?.getD 0)):=by
    intro k' zE I;have zu:=HO.lt y C x (l x B) (by rw[HZ.out];exact J);by_cases e:k'=k;.subst e;rw[HY.out];exact zu
    .have Q:k<k':=by have:=HK.out;omega
     have X:=iD Z Q I;rw[HY.out]at X;exact HO.trans y C x (l x B) _ (l _ (dO I)) zu X
   have hd:(!decide (z<0))=false:=by simp[J]
   rw[hd];go_wp2;go_roundw;.grind
   .simp[intOf];omega
  .have zm:Hid (∀k',a+k'<q+1->R (A[k']?.getD 0) y):=by
    intro k' zE;have zt:=HO.ge x (l x B) y C (zA x B) (by rw[HZ.out];exact J);by_cases e:k'=k;.subst e;rw[HY.out];exact zt
    .have Q:k'<k:=by have:=HK.out;omega
     have X:=iD Z Q O;rw[HY.out]at X;exact HO.trans _ (l _ (dO dg)) x (l x B) y C X zt
   have hd:(!decide (z<0))=true:=by simp[J]
   rw[hd];go_wp2;go_roundw;.exact⟨q+1,t,by go_num,rfl,dg,dg,zI,zm,zk,T,zj⟩
   .simp[intOf];omega
 .have zn:¬(s:Int)<(t:Int):=dg;obtain rfl:s=t:=dg;obtain⟨c,hc⟩:∃c,s=a+c:=⟨s-a,dg⟩;have zR:s<=a+c:=dg;have zS:a+c<=s:=dg;have zT:c<=A.length:=dg;have zv:Hid (∀x∈A.take c,R x y):=by intro x F;obtain⟨k,Y,_,e⟩:=gt F;rw[<-e];exact zF k dg
  have zw:Hid (∀x∈A.drop c,R y x):=by intro x F;obtain⟨k,Y,I,e⟩:=ji F;rw[<-e];exact zk k dg I
  clear hc;go_wp2;go_loopw[17] (λi wr=>∃e u:Nat,a+e<=u/\u<=a+e/\i=Iq u/\c<=e/\e<=A.length/\Hid (aO wr d off (P++A.take e++[y]++A.drop e++S))/\Hid (w.grownBy wr (some d))) (λi _=>(intOf i).toNat);.exact⟨A.length,m,dg,dg,rfl,dg,LE,by simp_all,H⟩
  obtain⟨W,u,VJ,Ze,rfl,zV,zU,p,E⟩:=hrel;by_cases zL:c<W
  .have zo:(s:Int)<(u:Int):=dg;obtain⟨e,rfl⟩:∃e,W=e+1:=⟨W-1,dg⟩;have zi:e<A.length:=dg;obtain⟨x,F⟩:=af (A[e]?.getD 0);obtain⟨U,V⟩:=ia A e zi;rw[F]at U V;obtain⟨v,hv⟩:∃v,v+1=u:=⟨u-1,dg⟩;have Zj:(u:Int)-1=(v:Int):=dg;have Zg:v<u:=dg;have G:(P++A.take e).length=v:=by have:=HA.out;rw[aN,cL];omega
   have ze:(P++A.take (e+1)++[y]++A.drop (e+1)++S).length=n:=by have:=HN.out;simp only[aN,cL,dq,cV,eI]at*;omega
   have hd:P++A.take (e+1)++[y]++A.drop (e+1)++S=(P++A.take e)++[x]++[y]++(A.drop (e+1)++S):=by rw[U];simp[cA]
   have o:=p.out;rw[hd]at o ze;have M:((P++A.take e)++[x]++[y]++(A.drop (e+1)++S))[v]?.getD 0=x:=by rw[<-G];exact(mu _ _ _ _).1
   have N:((P++A.take e)++[x]++[y]++(A.drop (e+1)++S))[u]?.getD 0=y:=by rw[<-hv,<-G];exact(mu _ _ _ _).2
   have c0:wr.cell? (aq d (off+v))=some (Iq x):=by rw[(o.2 v dg).1,M]
   have f0:=(o.2 v dg).2;have c1:wr.cell? (aq d (off+u))=some (Iq y):=by rw[(o.2 u dg).1,N]
   have f1:=(o.2 u dg).2;have zg:Hid (aO ((wr.setCell (aq d (off+u)) (Iq x)).setCell (aq d (off+v)) (Iq y)) d off (P++A.take e++[y]++A.drop e++S)):=by have:=jL o u v dg dg;rw[M,N,xp _ _ _ dg dg]at this;have zq:=qp (P++A.take e) x y (A.drop (e+1)++S);rw[G,hv]at zq;rw[zq]at this;show aO _ _ _ _;rw[V];simpa[cA]using this
   have HG:Hid (w.grownBy ((wr.setCell (aq d (off+u)) (Iq x)).setCell (aq d (off+v)) (Iq y)) (some d)):=
    grown_trans E (grown_trans (dI _ _ _ _) (dI _ _ _ _));have VK:(u:Int)<(n:Int):=dg;have VL:(v:Int)<(n:Int):=dg;have Zr:IntKind.i64.wrap (v:Int)=(v:Int):=IntWalk.i64_in _ ⟨dg,dg⟩;clear o hd M N U V F ze G hv p E;go_wp2;go_big_region;go_wp2;go_roundw;.exact⟨e,v,dg,dg,rfl,dg,dg,zg,dX HG⟩
   .simp[intOf];omega
  .have zo:¬(s:Int)<(u:Int):=dg;obtain rfl:W=c:=dg;go_wp2;try simp only[Exit.inBlock,Exit.then]
   refine bodyPost_ret (results_none rfl _ _ _) rfl ?_;exact⟨rfl,⟨A.take W,A.drop W,(eT _ _).symm,zv,zw,by simpa[cA]using p.out⟩,E⟩
def NI{n}{D}{R}(m:Ord n D R){X Y:zzc}(q:X.Pairwise R)(r:Y.Pairwise R)(b:∀x∈X,x∈D)(c:∀y∈Y,y∈D)i j(hi:i<=X.length)(h:0<i->j<Y.length->R (X[i-1]?.getD 0) (Y[j]?.getD 0)):∀x∈X.take i,∀y∈Y.drop j,R x y:=by
 intro x t y hy;obtain⟨k,u,d,rfl⟩:=gt t;obtain⟨l,v,g,rfl⟩:=ji hy;have o:=h dg dg;have p:R (X[k]?.getD 0) (Y[j]?.getD 0):=by
  by_cases e:k=i-1;.grind
  .exact m.trans _ (b _ (dO d)) _ (b _ (dO dg)) _ (c _ (dO dg)) (iD q dg dg) o
 by_cases e:l=j;.grind
 .exact m.trans _ (b _ (dO d)) _ (c _ (dO dg)) _ (c _ (dO g)) p (iD r dg g)
def DT(b c d e g h:zzc)(k:g.Perm (b++d))(l:h.Perm (c++e)):(g++h).Perm ((b++c)++(d++e)):=rn
def DR{R}(b c d e g h:zzc)(k:g.Perm (b++d))(l:h.Perm (c++e))(o:g.Pairwise R)(p:h.Pairwise R)(m:(b++c).Pairwise R)(n:(d++e).Pairwise R)(c1:∀x∈b,∀y∈e,R x y)(c2:∀x∈d,∀y∈c,R x y):(g++h).Pairwise R:=rn
def oQ(w w':AT)(blk off:Nat)(R:Int->Int->Prop)(P A B S:zzc):Prop:=
 (∃M:List Int,M.Perm (A++B)/\M.Pairwise R/\aO w' blk off (P++M++S))/\w.grownBy w' (some blk)
def Nz(g:Nat)(lb:Array Fd)(cf:Int->Int->Int)(D:zzc)(R:Int->Int->Prop)(w0:AT)(blk off cap:Nat)(N:Nat):Prop:=
 ∀(P A B S:zzc) (w:AT) (n a m b:Nat),A.length+B.length<=N->w0.grownBy w (some blk)->aO w blk off (P++A++B++S)->(∀x∈A,x∈D)->(∀x∈B,x∈D)->A.Pairwise R->B.Pairwise R->(∀x∈A,∀y∈B,x<y)->0<A.length->0<B.length->(P++A++B++S).length=n->n<=1099511627776->P.length=a->P.length+A.length=m->P.length+A.length+B.length=b->
  Cw 376 #[.slice (some (aq blk off)) n cap,Iq a,Iq m,Iq b,.func (.func g) #[] lb] w λe w'=>e=Rw (.tuple #[])/\oQ w w' blk off R P A B S
def B_{A:zzc}(h:A.length=1):∃x,A=[x]:=by
 match A,h with
 |[x],_=>exact⟨x,rfl⟩
def Jj(g:Nat)(lb:Array Fd)(eg:∀args w,(callFunc g args).run prog w=.ok (.enter g args) w)(cf:Int->Int->Int)(D:zzc)(R:Int->Int->Prop)(hO:Ord cf D R)(w0:AT)(k off V:Nat)(zw:uu g lb cf D w0 k)(N:Nat)(IH:Nz g lb cf D R w0 k off V N)(P A B S:zzc)(w:AT)(n a m b:Nat)(hN:A.length+B.length<=N+1)(hw0:w0.grownBy w (some k))(h:aO w k off (P++A++B++S))(hAD:∀x∈A,x∈D)(hBD:∀x∈B,x∈D)(hAP:A.Pairwise R)(hBP:B.Pairwise R)(zJ:∀x∈A,∀y∈B,x<y)(_H:2<=A.length)(_J:2<=B.length)(hn:(P++A++B++S).length=n)(zy:n<=1099511627776)(ha:P.length=a)(hm:P.length+A.length=m)(hb:P.length+A.length+B.length=b):
 Cw 376 #[.slice (some (aq k off)) n V,Iq a,Iq m,Iq b,.func (.func g) #[] lb] w λe w'=>e=Rw (.tuple #[])/\oQ w w' k off R P A B S:=by
 have HR:=qH<|h;have HO:=qH<|hO;have zE:=qH<|hw0;have zQ:=qH<|zw;have HI:=qH<|IH;have J:=qH<|hAD;have K:=qH<|hBD;have Y:=qH<|hAP;have Z:=qH<|hBP;have HT:=qH<|zJ;have TD:prog.follows .mixedOrders=true:=pt;have _S:b<=n:=by rw[<-hb,<-hn];simp only[aN];omega
 have YA:((m:Int)-(a:Int)==1)=false:=by have:¬(m:Int)-(a:Int)=1:=dg;simpa using this
 have X_:((b:Int)-(m:Int)==1)=false:=by have:¬(b:Int)-(m:Int)=1:=dg;simpa using this
 have Yy:m<=a+A.length:=dg;have Yz:a+A.length<=m:=dg;have XZ:b<=m+B.length:=dg;have X0:m+B.length<=b:=dg;have HN:=qH<|hn;have HA:=qH<|ha;have zM:Hid (∀t,t<A.length->(P++A++B++S)[a+t]?.getD 0=A[t]?.getD 0):=by intro t ht;rw[fN,if_pos rn,fN,if_pos rn,fN,if_neg dg];congr 2;omega
 have zN:Hid (∀t,t<B.length->(P++A++B++S)[m+t]?.getD 0=B[t]?.getD 0):=by intro t ht;rw[fN,if_pos rn,fN,if_neg rn];congr 2;simp only[aN];omega
 obtain⟨d,TC⟩:∃d:Nat,(a+b)/2=d:=⟨_,rfl⟩;have Vu:((a:Int)+(b:Int))/2=(d:Int):=dg;have Vs:a+b<=2*d+1:=dg;have Vt:2*d<=a+b:=dg;obtain⟨n',YE⟩:∃n':Nat,d+m=n':=⟨_,rfl⟩;have Vy:(d:Int)+(m:Int)=(n':Int):=dg;obtain⟨p,hp⟩:∃p:Nat,n'-1=p:=⟨_,rfl⟩;have hpi:(n':Int)-1=(p:Int):=dg;have zU:Hid (p+1=d+m/\n'=d+m):=⟨dg,dg⟩;have hnb:n'<=2199023255552:=dg;have QY:p<=2199023255552:=dg;obtain⟨sb,Y7⟩:∃sb:Int,(n':Int)-(b:Int)=sb:=⟨_,rfl⟩;have zA:sb=(d:Int)+(m:Int)-(b:Int):=dg;have WP:=qH<|zA;have TU:-2199023255552<=sb:=dg;have TV:sb<=2199023255552:=dg;clear h hO hw0 zw IH hAD hBD hAP hBP zJ hn ha hm hb TC YE hp zA;go_enter func376,ntmps376;go_upto_if 140 with fail;go_cut[20,21]from 140 to 146 (λi j wx=>∃W X:Nat,i=Iq W/\j=Iq X/\a<=W/\W<=X/\X<=m/\X<=d/\d+m<=W+b/\Hid ((d+m<=W+b/\W+b<=d+m/\d<=X)\/(W=a/\X=m))/\w=wx)
 .by_cases M:d<m;.have Ve:(d:Int)<(m:Int):=dg;go_wp2_with fail;go_meet;exact⟨d+m-b,d,rn,rfl,dg,dg,dg,LE,dg,Or.inl ⟨dg,dg,LE⟩,rfl⟩
  .have Ve:¬(d:Int)<(m:Int):=dg;go_wp2_with fail;go_meet;exact⟨a,m,rfl,rfl,LE,dg,LE,dg,dg,Or.inr ⟨rfl,rfl⟩,rfl⟩
 obtain⟨W,X,rfl,rfl,has,Y',TT,VG,Y9,HD,rfl⟩:=hcut;clear Y7 TU TV WP;go_wp2;go_loopw[20,21] (λi j wr=>∃s r:Nat,i=Iq s/\j=Iq r/\W<=s/\s<=r/\r<=X/\Hid (W<s->R (A[s-1-a]?.getD 0) (B[d-s]?.getD 0))/\Hid (r<X->R (B[d-1-r]?.getD 0) (A[r-a]?.getD 0))/\Hid (aO wr k off (P++A++B++S))/\Hid (w.grownBy wr (some k))) (λi j _=>(intOf j).toNat-(intOf i).toNat);.exact⟨W,X,rfl,rfl,LE,Y',LE,λh=>dg,λh=>dg,HR,cT _ _⟩
 obtain⟨s,r,rfl,rfl,VH,Za,VE,zI,zF,H,zh⟩:=hrel;by_cases zJ:s<r
 .have GO:(s:Int)<(r:Int):=dg;obtain⟨q,hq⟩:∃q:Nat,(s+r)/2=q:=⟨_,rfl⟩;have YX:((s:Int)+(r:Int))/2=(q:Int):=dg;have TL:s<=q:=dg;have VC:q<r:=dg;have TR:(q:Int)<(n:Int):=dg;obtain⟨u,hu⟩:∃u:Nat,d+m-1-q=u:=⟨_,rfl⟩;have hui:(p:Int)-(q:Int)=(u:Int):=by have:=zU.out;omega
  have VK:(u:Int)<(n:Int):=dg;have HU:Hid (u=m+(d-1-q)):=qH<|by omega
  have hwu:IntKind.i64.wrap (u:Int)=(u:Int):=IntWalk.i64_in _ ⟨dg,dg⟩;have zG:q-a<A.length:=dg;have zH:d-1-q<B.length:=dg;obtain⟨x,G⟩:=af (A[q-a]?.getD 0);obtain⟨y,hy⟩:=af (B[d-1-q]?.getD 0);have zY:=qH<|G;have zZ:=qH<|hy;have zr:Hid (x∈A):=by show x∈A;rw[<-G];exact dO zG
  have zt:Hid (y∈B):=by show y∈B;rw[<-hy];exact dO zH
  have Yw:=HN.out;have c0:wr.cell? (aq k (off+q))=some (Iq x):=by rw[(H.2 q dg).1,show q=a+(q-a)by omega,zM _ zG,G]
  have c1:wr.cell? (aq k (off+u))=some (Iq y):=by rw[(H.2 u dg).1,HU.out,zN _ zH,hy]
  have Q:Hid (Cw g (#[Iq y,Iq x]++lb) wr.drew λe W'=>e=Rw (Iq (cf y x))/\Bq wr W'):=by refine Ut (zQ wr.drew (dX (grown_trans zE zh)) y (K y zt) x (J x zr)) ?_;rintro I b2;exact⟨rfl,(ac wr.heap.size wr).drew.trans b2⟩
  obtain⟨z,hz⟩:=af (cf y x);have HZ:=qH<|hz;rw[hz]at Q;clear hq G hy Yw hz hu zG zH;go_wp2_with fail;go_cut[171]from 158 to 171 (λv wx=>v=.bool (!decide (z<0))/\Bq wr wx)
  .go_region_with(refine Ut Q ?_;rintro wq bq);all_goals(go_wp2_with fail)
   all_goals go_meet
   all_goals exact⟨rfl,bq⟩
  obtain⟨rfl,bx⟩:=hcut;have zi:=qH<|H.below bx;have zx:=qH<|grown_trans zh (grown_below bx);clear H zh c0 c1 Q;by_cases zu:z<0
  .have Ts:Hid (q<X->R (B[d-1-q]?.getD 0) (A[q-a]?.getD 0)):=by intro _;rw[zY.out,zZ.out];exact HO.lt y (K y zt) x (J x zr) (by rw[HZ.out];exact zu)
   have hd:(!decide (z<0))=false:=by simp[zu]
   rw[hd];go_wp2;go_roundw;.exact⟨s,q,rfl,rfl,VH,dg,dg,zI,Ts,zi,zx⟩
   .simp[intOf];omega
  .have TA:Hid (W<q+1->R (A[q+1-1-a]?.getD 0) (B[d-(q+1)]?.getD 0)):=by intro _;rw[show q+1-1-a=q-a by omega,show d-(q+1)=d-1-q by omega,zY.out,zZ.out];exact HO.ge x (J x zr) y (K y zt) (HT x zr y zt) (by rw[HZ.out];exact zu)
   have hd:(!decide (z<0))=true:=by simp[zu]
   rw[hd];go_wp2;go_roundw;.exact⟨q+1,r,by go_num,rfl,dg,dg,VE,TA,zF,zi,zx⟩
   .simp[intOf];omega
 .have GO:¬(s:Int)<(r:Int):=dg;obtain rfl:s=r:=dg;obtain⟨e,he⟩:∃e:Nat,d+m-s=e:=⟨_,rfl⟩;have _4:(n':Int)-(s:Int)=(e:Int):=by have:=zU.out;omega
  have Vg:e+s<=d+m:=dg;have _3:d+m<=e+s:=dg;obtain⟨E,zm⟩:=af (A.take (s-a));obtain⟨l,zn⟩:=af (A.drop (s-a));obtain⟨F,zo⟩:=af (B.take (d-s));obtain⟨C,zq⟩:=af (B.drop (d-s));have ze:Hid (E.length=s-a):=qH<|by rw[<-zm,cL];omega
  have T:Hid (l.length=m-s):=qH<|by rw[<-zn,dq];omega
  have U:Hid (F.length=d-s):=qH<|by rw[<-zo,cL];omega
  have zl:Hid (C.length=b-e):=qH<|by rw[<-zq,dq];omega
  have EA:Hid (A=E++l):=qH<|by rw[<-zm,<-zn,eT]
  have EB:Hid (B=F++C):=qH<|by rw[<-zo,<-zq,eT]
  have X1:Hid (∀x∈E,∀y∈C,R x y):=by
   show∀x∈E,∀y∈C,R x y;rw[<-zm,<-zq];refine NI HO Y Z J K _ _ dg λO h1=>?_;have zL:W<s:=by rcases HD.out with⟨d1,d2,d3⟩|⟨d1,d2⟩<;>omega
   have:=zI zL;rwa[show s-1-a=s-a-1 by omega]at this
  have X2:Hid (∀x∈F,∀y∈l,R x y):=by
   show∀x∈F,∀y∈l,R x y;rw[<-zo,<-zn];refine NI HO Z Y K J _ _ dg λO h1=>?_;have zL:s<X:=by rcases HD.out with⟨d1,d2,d3⟩|⟨d1,d2⟩<;>omega
   have:=zF zL;rwa[show d-1-s=d-s-1 by omega]at this
  clear zm zn zo zq zI zF he zM zN zQ HD;have PA:Hid (E.Pairwise R/\l.Pairwise R/\F.Pairwise R/\C.Pairwise R):=by have h1:=Y.out;rw[EA.out]at h1;have h2:=Z.out;rw[EB.out]at h2;exact⟨(ig.1 h1).1,(ig.1 h1).2.1,(ig.1 h2).1,(ig.1 h2).2.1⟩
  have MA:Hid ((∀x∈E,x∈A)/\(∀x∈l,x∈A)/\(∀x∈F,x∈B)/\(∀x∈C,x∈B)):=by refine⟨?_,?_,?_,?_⟩<;>intro x G<;>first|(rw[EA.out];exact jA.2 (Or.inl G))|(rw[EA.out];exact jA.2 (Or.inr G))|(rw[EB.out];exact jA.2 (Or.inl G))|(rw[EB.out];exact jA.2 (Or.inr G))
  have zC:Hid (aO wr k off (P++E++l++F++(C++S))):=by have:=H.out;rw[EA.out,EB.out]at this;show aO _ _ _ _;simpa[cA]using this
  have zk:Hid (P.length+E.length+l.length+F.length+C.length+S.length=n):=by have:=HN.out;rw[EA.out,EB.out]at this;show _=_;simp only[aN]at this;omega
  have Q:Hid (s<m->s<d->Cw 379 #[.slice (some (aq k off)) n V,Iq s,Iq m,Iq e,.func (.func g) #[] lb] wr λe w'=>e=Rw (.tuple #[])/\aO w' k off (P++E++F++(l++C++S))/\w.grownBy w' (some k)):=by
   intro h1 h2;have:=ze.out;have:=T.out;have:=U.out;have:=HA.out;have:=zk.out;have e0:(P++E++l++F++(C++S)).length=n:=by simp only[aN];omega
   have e1:(P++E).length=s:=by simp only[aN];omega
   have e2:(P++E).length+l.length=m:=by simp only[aN];omega
   have e3:(P++E).length+l.length+F.length=e:=by simp only[aN];omega
   have c:=Af (P++E) l F (C++S) k off V (.func (.func g) #[] lb) wr zC dg dg dg;rw[e3,e2,e1,e0]at c;refine c.mono ?_;rintro ex w' ⟨rfl,r1,g1⟩;exact⟨rfl,by simpa[cA]using r1,grown_trans zh g1⟩
  have zO:Hid (∀I,aO I k off (P++E++F++(l++C++S))->w.grownBy I (some k)->a<s->s<d->Cw 376 #[.slice (some (aq k off)) n V,Iq a,Iq s,Iq d,.func (.func g) #[] lb] I λe w'=>e=Rw (.tuple #[])/\(∃o:List Int,o.Perm (E++F)/\o.Pairwise R/\aO w' k off (P++o++(l++C++S)))/\w.grownBy w' (some k)):=by intro I zK zg h1 h2;have:=ze.out;have:=T.out;have:=U.out;have:=zl.out;have:=HA.out;have:=zk.out;refine(HI P E F (l++C++S) I n a s d dg (grown_trans zE zg) zK (λx G=>J x (MA.1 x G)) (λx G=>K x (MA.2.2.1 x G)) PA.1 PA.2.2.1 (λx G y hy=>HT x (MA.1 x G) y (MA.2.2.1 y hy)) dg dg (by simp only[aN];omega) zy HA dg dg).mono ?_;rintro ex w' ⟨rfl,m1,g1⟩;exact⟨rfl,m1,grown_trans zg g1⟩
  have zP:Hid (∀o:List Int,o.Perm (E++F)->∀I,aO I k off (P++o++(l++C++S))->w.grownBy I (some k)->s<m->e<b->Cw 376 #[.slice (some (aq k off)) n V,Iq d,Iq e,Iq b,.func (.func g) #[] lb] I λe w'=>e=Rw (.tuple #[])/\(∃L:List Int,L.Perm (l++C)/\L.Pairwise R/\aO w' k off (P++o++L++S))/\w.grownBy w' (some k)):=by
   intro o XP I zK zg h1 h2;have:=ze.out;have:=T.out;have:=U.out;have:=zl.out;have:=HA.out;have:=zk.out;have hl:=XP.length_eq;rw[aN]at hl;have Y0:aO I k off ((P++o)++l++C++S):=by simpa[cA]using zK
   refine(HI (P++o) l C S I n d e b dg (grown_trans zE zg) Y0 (λx G=>J x (MA.2.1 x G)) (λx G=>K x (MA.2.2.2 x G)) PA.2.1 PA.2.2.2 (λx G y hy=>HT x (MA.2.1 x G) y (MA.2.2.2 y hy)) dg dg (by simp only[aN];omega) zy (by simp only[aN];omega) (by simp only[aN];omega) (by simp only[aN];omega)).mono ?_;rintro ex w' ⟨rfl,m1,g1⟩;exact⟨rfl,m1,grown_trans zg g1⟩
  have zv:Hid (∀o L:List Int,∀w',o.Perm (E++F)->o.Pairwise R->L.Perm (l++C)->L.Pairwise R->aO w' k off (P++o++L++S)->w.grownBy w' (some k)->oQ w w' k off R P A B S):=by
   intro o L w' h1 p1 h2 p2 hr hg;refine⟨⟨o++L,?_,?_,by simpa[cA]using hr⟩,hg⟩;.rw[EA.out,EB.out];exact DT _ _ _ _ _ _ h1 h2
   .have h3:=Y.out;rw[EA.out]at h3;have h4:=Z.out;rw[EB.out]at h4;exact DR E l F C o L h1 h2 p1 p2 h3 h4 X1 X2
  have zj:Hid (m<=s\/d<=s->aO wr k off (P++E++F++(l++C++S))):=by
   intro M;have:=T.out;have:=U.out;have O:=zC.out;rcases M with M|M;.rw[kH (show l.length=0 by omega)]at O|-;simpa[cA]using O
   .rw[kH (show F.length=0 by omega)]at O|-;simpa[cA]using O
  have Tm:Hid (s<=a\/d<=s->(E++F).Pairwise R):=by
   intro M;have:=ze.out;have:=U.out;rcases M with M|M;.rw[kH (show E.length=0 by omega)];exact PA.2.2.1
   .rw[kH (show F.length=0 by omega),iP];exact PA.1
  have Tn:Hid (m<=s\/b<=e->(l++C).Pairwise R):=by
   intro M;have:=T.out;have:=zl.out;rcases M with M|M;.rw[kH (show l.length=0 by omega)];exact PA.2.2.2
   .rw[kH (show C.length=0 by omega),iP];exact PA.2.1
  have Z_:e<=b:=dg;clear H zC EA EB X1 X2 PA MA zk ze T U zl HI Y Z J K HT HO HN;have zS:Hid (∀I,aO I k off (P++E++F++(l++C++S))->(s<=a\/d<=s)->∃o:List Int,o.Perm (E++F)/\o.Pairwise R/\aO I k off (P++o++(l++C++S))):=λI h M=>⟨E++F,JJ _,Tm M,rn⟩;have zT:Hid (∀o w3,aO w3 k off (P++o++(l++C++S))->(m<=s\/b<=e)->∃L:List Int,L.Perm (l++C)/\L.Pairwise R/\aO w3 k off (P++o++L++S)):=λo w3 h M=>⟨l++C,JJ _,Tn M,by simpa[cA]using h⟩;by_cases i1:(s:Int)<(m:Int)<;>by_cases i2:(m:Int)<(e:Int)<;>by_cases i3:(a:Int)<(s:Int)<;>by_cases i4:(s:Int)<(d:Int)<;>by_cases i5:(d:Int)<(e:Int)<;>by_cases i6:(e:Int)<(b:Int)<;>try(exfalso;omega)
  all_goals
   first
    |(have O:=Q dg dg;go_wp2_with fail;refine ag O ?_;clear O;rintro ex I ⟨rfl,r2,g2⟩)
    |(have r2:=zj dg;have g2:=zh.out)
   have zD:=qH<|r2;have zB:=qH<|g2;clear r2 g2 Q zj;first
    |(have O:=zO _ zD zB dg dg;go_wp2_with fail;refine ag O ?_;clear O;rintro ex w3 ⟨rfl,⟨o,q1,q2,r3⟩,g3⟩)
    |(obtain⟨o,q1,q2,r3⟩:=zS _ zD dg;have g3:=zB.out)
   have zV:=qH<|q1;have WL:=qH<|q2;have zX:=qH<|r3;have zR:=qH<|g3;clear q1 q2 r3 g3 zD zB zO zS;first
    |(have O:=zP o zV _ zX zR dg dg;go_wp2_with fail;refine ag O ?_;clear O;rintro ex w4 ⟨rfl,⟨L,q3,q4,r4⟩,g4⟩)
    |(obtain⟨L,q3,q4,r4⟩:=zT o _ zX dg;have g4:=zR.out)
   have HZ:=qH<|zv o L _ zV WL q3 q4 r4 g4;clear q3 q4 r4 g4 zv zP zT;go_wp2;go_end0;exact⟨rfl,HZ⟩
def Cc(g:Nat)C(G:∀args w,(callFunc g args).run prog w=.ok (.enter g args) w)u D R(H:Ord u D R)E e off k(d:uu g C u D E e):∀N,Nz g C u D R E e off k N
 |0=>λP A B S w n a m b O q h l o v z p L F J t I M Q=>dg
 |N+1=>λP A B S w n a m b O q h l o v z p L F J t I M Q=>by
  by_cases Y:A.length=1;.obtain⟨x,rfl⟩:=B_ Y;have c:=Jk g C G u D R H E P x B S e off k d w q h (l x At) o z (λy hy=>p x At y hy) F dg;rw[J,I,show a+1=m by omega,show m+B.length=b by omega]at c;refine c.mono ?_;rintro X w' ⟨rfl,⟨V,W,rfl,x1,x2,r⟩,K⟩;refine⟨rfl,⟨V++[x]++W,?_,?_,rn⟩,K⟩;all_goals grind
  .by_cases Z:B.length=1;.obtain⟨y,rfl⟩:=B_ Z;have c:=EU g C G u D R H E P A y S e off k d w q h (o y At) l v (λx hx=>p x hx y At) dg dg;rw[J,show P.length+A.length+1=b by omega,M,I]at c;refine c.mono ?_;rintro X w' ⟨rfl,⟨T,U,rfl,x1,x2,r⟩,K⟩;refine⟨rfl,⟨T++[y]++U,?_,?_,rn⟩,K⟩;all_goals grind
   .exact Jj g C G u D R H E e off k d N (Cc g C G u D R H E e off k d N) P A B S w n a m b O q h l o v z p dg dg J t I M Q
def dw(W:AT)(b:Nat)(v:Nat->Fd):Prop:=b<W.heap.size/\∀k,k<12->W.cell? (aq b k)=some (v k)/\W.frozen? (aq b k)=false
def lI{W c:AT}{b}(h:c.heap[b]?=W.heap[b]?)k:c.frozen? (aq b k)=W.frozen? (aq b k):=by unfold World.frozen?;rw[h]
def dw.keep{W c}{b}{v}(h:dw W b v)(g:W.heap.size<=c.heap.size)(d:c.heap[b]?=W.heap[b]?):dw c b v:=
 ⟨zz006 h.1 g,λk e=>⟨(aQ (a:=(aq b k)) d).trans (h.2 k e).1,(lI d k).trans (h.2 k e).2⟩⟩
def dw.grown{W c}{b r}{v}(h:dw W b v)(g:W.grownBy c (some r))(d:b≠r):dw c b v:=h.keep g.size (g.block b h.1 (λe=>d rn))
def dw.below{W W'}{b}{v}(h:dw W b v)(g:Bq W W'):dw W' b v:=h.keep g.size (g.block b h.1)
def dw.set{W}{b k}{v}(h:dw W b v)(d:k<12)u:dw (W.setCell (aq b k) u) b (λj=>if j=k then u else v j):=by
 refine⟨by simpa[World.setCell]using h.1,λj c=>⟨?_,(eS _ _ _ _).trans (h.2 j c).2⟩⟩;by_cases e:j=k;.subst e;show _=some (if j=j then u else v j);rw[if_pos rfl];exact kF _ _ _ (h.2 j c).1
 .show _=some (if j=k then u else v j);rw[if_neg e,cu _ _ _ _ (λq=>rn)];exact(h.2 j c).1
def dw.other{W}{b c k}{v}(h:dw W b v)(d:b≠c)u:dw (W.setCell (aq c k) u) b v:=
 h.keep (by simp_all) (aM W (aq c k) u b d)
def RS.other{W}{rb b k}{s}{i}{lv}{bad d at_ dep}(h:RS W rb s i lv bad d at_ dep)(e:rb≠b)u:RS (W.setCell (aq b k) u) rb s i lv bad d at_ dep:=by have hh:=aM W (aq b k) u rb e;have c:=λj=>aQ (a:=(aq rb j)) hh;exact⟨by simpa[World.setCell]using h.lt,(c 0).trans h.c0,(c 1).trans h.c1,(c 2).trans h.c2,(c 3).trans h.c3,(c 4).trans h.c4,(c 5).trans h.c5,(c 6).trans h.c6,λj=>(lI hh j).trans (h.fz j)⟩
structure AS(w wi:AT)(rb ab sb:Nat)(s:BY)(i:Nat)(lv:Fd)(bad dep:Int)(f:dM)(j:Nat)(a:zzc)(seen:zzh):Prop where
 rs:∃er at_,RS wi rb s i lv bad er at_ dep/\FL er at_ f j
 len:a.length=12
 ar:dw wi ab (λk=>Iq (a[k]?.getD 0))
 sr:dw wi sb (λk=>.bool (seen.contains k))
 gr:w.grownBy wi (some rb)
structure AB(w:AT)(rb ab sb:Nat):Prop where
 r:rb<w.heap.size
 a:w.heap.size<=ab
 s:w.heap.size<=sb
 ne:ab≠sb
section
variable{w wi wj:AT} {rb ab sb:Nat} {s:BY} {i i' j j':Nat} {lv:Fd} {bad aS dep:Int} {f f':dM} {a:zzc} {seen:zzh}
def AS.next(h:AS w wi rb ab sb s i lv bad dep f j a seen)(b:AB w rb ab sb){c at_}(g:RS wj rb s i' lv aS c at_ dep)(e:FL c at_ f' j')(d:wi.grownBy wj (some rb)):AS w wj rb ab sb s i' lv aS dep f' j' a seen:=
 ⟨⟨c,at_,g,e⟩,h.len,h.ar.grown d (by have:=b.r;have:=b.a;omega),h.sr.grown d (by have:=b.r;have:=b.s;omega),gr_trans h.gr d⟩
def AS.below(h:AS w wi rb ab sb s i lv bad dep f j a seen)(b:Bq wi wj):AS w wj rb ab sb s i lv bad dep f j a seen:=by obtain⟨c,at_,d,e⟩:=h.rs;exact⟨⟨c,at_,d.below b,e⟩,h.len,h.ar.below b,h.sr.below b,gr_trans h.gr (dm b)⟩
def AS.on(h:AS w wi rb ab sb s i lv bad dep f j a seen)(e:j<=j'):AS w wi rb ab sb s i lv bad dep f j' a seen:=by obtain⟨b,at_,c,d⟩:=h.rs;exact⟨⟨b,at_,c,d.on e⟩,h.len,h.ar,h.sr,h.gr⟩
def tG{d W:AT}{r b k}{u}(h:d.grownBy W (some r))(l:d.heap.size<=b):d.grownBy (W.setCell (aq b k) u) (some r):=
 ⟨h.os,h.tape,h.output,by simpa[World.setCell]using h.size,λc e g=>(aM W (aq b k) u c rn).trans (h.block c e g)⟩
def AS.setA(h:AS w wi rb ab sb s i lv bad dep f j a seen)(b:AB w rb ab sb){k}(c:k<12)n:AS w (wi.setCell (aq ab k) (Iq n)) rb ab sb s i lv bad dep f j (a.set k n) seen:=by
 obtain⟨d,at_,g,l⟩:=h.rs;have p:=b.r;have m:=b.a;refine⟨⟨d,at_,g.other dg _,l⟩,by rw[xK];exact h.len,?_,h.sr.other (λe=>b.ne e.symm) _,tG h.gr m⟩;have e:(λj=>if j=k then Iq n else Iq (a[j]?.getD 0))=λj=>Iq ((a.set k n)[j]?.getD 0):=by
  funext j;by_cases o:j=k;.subst o;rw[if_pos rfl,Co (by rw[h.len];exact c)];rfl
  .grind
 have:=h.ar.set c (Iq n);grind
def AS.setS(h:AS w wi rb ab sb s i lv bad dep f j a seen)(b:AB w rb ab sb){k}(m:k<12):AS w (wi.setCell (aq sb k) (.bool true)) rb ab sb s i lv bad dep f j a (k::seen):=by
 obtain⟨c,at_,d,g⟩:=h.rs;have o:=b.r;have l:=b.s;refine⟨⟨c,at_,d.other dg _,g⟩,h.len,h.ar.other b.ne _,?_,tG h.gr l⟩;have e:(λj=>if j=k then Value.bool true else .bool (seen.contains j))=λj=>.bool ((k::seen).contains j):=by
  funext j;by_cases n:j=k;.grind
  .grind
 have:=h.sr.set m (.bool true);grind
end
def Np(w:AT)(rb:Nat)(lv:Fd)(L:zza):Prop:=(L=[]/\lv=.slice none 0 0)\/∃(g cap:Nat) (AV:Nat->Nat),lv=Sq g L.length cap/\g<w.heap.size/\g≠rb/\∀k,k<L.length->w.cell? (aq g (k*5+1))=some (Sq (AV k) 12 12)/\AV k<w.heap.size/\AV k≠rb/\w.cell? (aq (AV k) 0)=some (Iq ((L.map (λd=>d.attr[0]?.getD 0))[k]?.getD 0))
def yt(L:zza)n k(b:k<L.length):em (L.take (k+1)) n=(em (L.take k) n||((L.map (λd=>d.attr[0]?.getD 0))[k]?.getD 0==n)):=by unfold em;rw[gx b,JK];simp[b]
def Fv f b d c p:bN (b||d) f c p=bN d (bN b f c p) c p:=by cases b<;>cases d<;>cases f<;>rfl
def AI(s:BY)(kind:Nat)(L:zza)(R:Except Nat (Nat×dM×List Int))(bad0:Int)(more:Bool)(i:Nat)(bad:Int)(f:dM)(a:zzc)(seen:zzh):Prop:=
 (bad=bad0/\more=true/\∃fuel,s.size-i<fuel/\cX s kind L fuel i f a seen=R)\/(bad=bad0/\more=false/\iw s i f a=R)\/(0<=bad/\more=false/\R=.error bad.toNat)
def AI.round{s}{d}{L}{R}{b}(p:b<0){i}{f}{a}{seen}(hi:i<=s.size){k}(B:s.size-i<k)(h:cX s d L k i f a seen=R):
 AI s d L R b (gB s (bE s i b).i 59 (bE s i b).bad) (mI s (bE s i b).i 59 (bE s i b).bad) (bE s i b).bad (fa d L f a seen (bE s i b)).1 (fa d L f a seen (bE s i b)).2.1 (fa d L f a seen (bE s i b)).2.2
 /\(gB s (bE s i b).i 59 (bE s i b).bad=true->i<mI s (bE s i b).i 59 (bE s i b).bad):=by
 obtain⟨g,rfl⟩:∃g,k=g+1:=⟨k-1,dg⟩;have C:=ub s i b;have z:=Ay s i b hi;have n:=oV s d L i f a seen b p;obtain⟨q,u⟩:=af (fa d L f a seen (bE s i b));rw[u]at n|-;clear u;obtain⟨f2,A,D⟩:=q;simp only;rcases n with⟨o,v⟩|⟨o,v⟩
 .rw[o];have r:gB s (bE s i b).i 59 b=aK s (bE s i b).i 59:=by unfold gB;rw[if_pos p]
  have x:mI s (bE s i b).i 59 b=an s (bE s i b).i 59:=by unfold mI;rw[if_pos p]
  rw[r,x];by_cases m:aK s (bE s i b).i 59=true
  .have l:an s (bE s i b).i 59=sk s (bE s i b).i+1:=by unfold an;rw[if_pos (by grind[aK])]
   have:=fG s (bE s i b).i;have t:=dH (c:=59) dg z;rw[l]at t;refine⟨.inl ⟨rfl,m,g,?_,?_⟩,λ_=>dg⟩;all_goals grind[i_]
  .have l:an s (bE s i b).i 59=sk s (bE s i b).i:=by unfold an;rw[if_neg (by grind[aK])]
   refine⟨.inr (.inl ⟨rfl,rn,?_⟩),λe=>absurd e m⟩;grind[rJ,iZ]
 .have y:¬(bE s i b).bad<0:=dg;have r:gB s (bE s i b).i 59 (bE s i b).bad=false:=by unfold gB;rw[if_neg y]
  rw[r];refine⟨.inr (.inr ⟨o,rfl,?_⟩),λe=>by cases e⟩;grind[kP]
def Iu:Fd->Bool
 |.bool b=>b
 |_=>false
