import Derived.Test.YtehgehanbnkdiaaGreatDoorQ09
import Derived.Shelf.Abstract
import Derived.Shelf.SlSortCmp.QuietGrown
set_option linter.all false
set_option maxRecDepth 100000
set_option maxHeartbeats 16000000
namespace Go.Proofs.YtehgehanbnkdiaaGreatDoor
open Go.RowKit Go.Sort Go.Proofs.Tryz
def xH(g:Nat)(lb:Array Fd)(cf:Int->Int->Int)(D:zzc)(w0:AT)(blk:Nat):Prop:=
 ∀W,w0.grownBy W (some blk)->∀x∈D,∀y∈D,Cw g (#[Iq x,Iq y]++lb) W λe W'=>e=Rw (Iq (cf x y))/\∃q os,W'=grow (W.drewN q) os
theorem gZ W q os:Bq W (grow (W.drewN q) os):=
 ⟨rfl,rfl,rfl,by simp_all,λk a=>by show(W.heap++os)[k]?=_;grind⟩
theorem xH.ok{g}{c}{b}{D}{d}{a}(h:xH g c b D d a):ud g c b D d a:=
 λW f x j y hy=>(h W f x j y hy).mono λe k ⟨i,q,os,l⟩=>⟨i,by grind[gZ]⟩
theorem Kx(M:zzc):M=[]\/∃a y,M=a++[y]:=by rcases List.eq_nil_or_concat M with h|⟨a,y,h⟩;all_goals grind
theorem FW(A a b:zzc)k(c:k<A.length)(h:(a++b).Perm (A.take k)):(a++[A[k]?.getD 0]++b).Perm (A.take (k+1)):=by grind[gM]
theorem FV{R:Int->Int->Prop}a b x(h:(a++b).Pairwise R)(c:∀y∈a,R y x)(d:∀y∈b,R x y):(a++[x]++b).Pairwise R:=rn
def Sorted(w w':AT)(blk off:Nat)(R:Int->Int->Prop)(P A S:zzc):Prop:=
 (∃M:List Int,M.Perm A/\M.Pairwise R/\aK w' blk off (P++M++S))/\w.grownBy w' (some blk)
theorem J5(g:Nat)(lb:Array Fd)(eg:∀args w,(callFunc g args).run prog w=.ok (.enter g args) w)(cf:Int->Int->Int)(D:zzc)(R:Int->Int->Prop)(hO:Ord cf D R)(w0:AT)(c off zE:Nat)(zr:xH g lb cf D w0 c)(P A S:zzc)(w:AT)(n a b:Nat)(zJ:w0.grownBy w (some c))(h:aK w c off (P++A++S))(zF:∀x∈A,x∈D)(zq:A.Pairwise (·<·))(hn:(P++A++S).length=n)(zL:n<=1099511627776)(ha:P.length=a)(hb:P.length+A.length=b):
 Cw 375 #[.slice (some (aq c off)) n zE,Iq a,Iq b,.func (.func g) #[] lb] w λe w'=>e=Rw (.tuple #[])/\Sorted w w' c off R P A S:=by
 have HR:=qH<|h;have HO:=qH<|hO;have zD:=qH<|zJ;have zB:=qH<|zr;have zh:=qH<|zF;have zA:=qH<|zq;have zT:prog.follows .mixedOrders=true:=pt
 have zQ:b<=n:=by rw[<-hb,<-hn];simp only[aI];omega
 have zP:b<=a+A.length:=dg;have HN:Hid (P.length+A.length+S.length=n):=by show _=_;rw[<-hn];simp only[aI]
 have HA:=qH<|ha;go_enter func375,ntmps375;go_wp2;go_loopw[8] (λi wr=>∃(u k:Nat) (M:zzc),i=Iq u/\a+k<=u/\u<=a+k/\1<=k/\(k<=A.length\/k=1)/\Hid (M.Perm (A.take k))/\Hid (M.Pairwise R)/\Hid (aK wr c off (P++M++A.drop k++S))/\Hid (w.grownBy wr (some c))) (λi _=>b+2-(intOf i).toNat);case atStart=>
  refine⟨a+1,1,A.take 1,by go_num,dg,dg,dg,Or.inr rfl,IU _,?_,?_,cL _ _⟩;·show List.Pairwise R _;match A with
   |[]=>simp_all
   |x::l=>grind
  ·show aK _ _ _ _;have:=HR.out;rw[cd P,eH];omega
 case round=>
  obtain⟨u,k,M,rfl,zV,zX,zR,zS,HM,U,J,zt⟩:=hrel;by_cases O:k<A.length
  ·have zu:(u:Int)<(b:Int):=dg
   obtain⟨x,hx⟩:=af (A[k]?.getD 0);have HX:=qH<|hx;have L:Hid (x∈D):=by show x∈D;rw[<-hx];exact zh _ (dE O)
   have K:Hid (M.length=k):=by show _=_;rw[HM.length_eq,cF];omega
   have E:Hid (∀y∈M,y∈D/\y<x):=by intro y hy;obtain⟨t,ht,zG,e⟩:=fY (HM.mem_iff.1 hy);rw[<-e,<-hx];exact⟨zh _ (dE zG),ig zA ht O⟩
   have ze:Hid (aK wr c off (P++M++[x]++[]++(A.drop (k+1)++S))):=by have:=J.out;rw[(gM A k O).2,hx]at this;show aK _ _ _ _;simpa[cd]using this
   go_wp2;go_loopw[9] (λj wr=>∃(v:Nat) (H r:zzc),j=Iq v/\a+H.length<=v/\v<=a+H.length/\H.length<=k/\Hid (M=H++r)/\Hid (∀y∈r,R x y)/\Hid (aK wr c off (P++H++[x]++r++(A.drop (k+1)++S)))/\Hid (w.grownBy wr (some c))) (λj _=>(intOf j).toNat);case atStart=>exact⟨u,M,[],rfl,by rw[K.out];omega,by rw[K.out];omega,by rw[K.out];omega,rn,(λy hy=>by cases hy),ze,zt⟩
   case round=>
    obtain⟨v,H,r,rfl,zw,zx,zI,B,H2,C,hgr2⟩:=hrel;have o:Hid ((∀y∈H,R y x)->∃f,List.Perm f (A.take (k+1))/\f.Pairwise R/\(P++H++[x]++r++(A.drop (k+1)++S))=P++f++A.drop (k+1)++S):=by
     intro h1;refine⟨H++[x]++r,?_,?_,by simp[cd]⟩;·have:=HM.out;rw[B.out]at this;have:=FW A H r k O this;rw[HX.out]at this;exact this
     ·have:=U.out;rw[B.out]at this;exact FV H r x this h1 H2
    rcases Kx H with rfl|⟨f,y,rfl⟩
    ·have zH:v=a:=by simp at zw zx;omega
     subst zH;obtain⟨f,d1,d2,d3⟩:=o (λy hy=>by cases hy);have d:Hid (aK wr c off (P++f++A.drop (k+1)++S)):=by have:=C.out;rw[d3]at this;exact this
     have D1:=qH<|d1;have D2:=qH<|d2;have m:=qH<|hgr2.out;go_wp2_with fail;go_quiet(fail);go_wp2;go_roundw;case rel=>exact⟨u+1,k+1,f,by go_num,dg,dg,dg,Or.inl dg,D1,D2,d.drewN _,grown_trans m (uP _ _ _)⟩
     case measure=>simp[intOf];omega
    ·have zo:(f++[y]).length=f.length+1:=At
     rw[zo]at zw zx zI;obtain⟨q,hq⟩:=af (a+f.length);have Q:q+1=v:=dg;have zY:(v:Int)-1=(q:Int):=dg;have zO:(a:Int)<(v:Int):=dg;have zZ:(v:Int)<(n:Int):=dg;have zU:(q:Int)<(n:Int):=dg;have _D:IntKind.i64.wrap (q:Int)=(q:Int):=IntWalk.i64_in _ ⟨dg,dg⟩;have N:(P++f).length=q:=by have:=HA.out;rw[aI];omega
     have I:Hid (y∈M):=by show y∈M;rw[B.out];simp
     have Y:((P++f)++[y]++[x]++(r++(A.drop (k+1)++S)))[q]?.getD 0=y:=by rw[<-N];exact(lX _ _ _ _).1
     have Z:((P++f)++[y]++[x]++(r++(A.drop (k+1)++S)))[v]?.getD 0=x:=by rw[<-Q,<-N];exact(lX _ _ _ _).2
     have zk:((P++f)++[y]++[x]++(r++(A.drop (k+1)++S))).length=n:=by have h1:=K.out;rw[B.out]at h1;have:=HN.out;simp only[aI,de,cN,en]at*;omega
     have F:aK wr c off ((P++f)++[y]++[x]++(r++(A.drop (k+1)++S))):=by have:=C.out;simpa[cd]using this
     have c0:=cell_grown F.1 (by rw[(F.2 q dg).1,Y]);have c1:=cell_grown F.1 (by rw[(F.2 v dg).1,Z]);have X:=λn' zK=>
      zB.out _ (grown_trans (grown_trans zD hgr2) (grown_below (gZ wr n' zK))) x L y (E y I).1;obtain⟨z,hz⟩:=af (cf x y);have HZ:=qH<|hz;have zn:=qH<|F;have V:Hid (q+1=v/\(P++f).length=q):=⟨Q,N⟩;have HQ:=qH<|hq;have zi:=qH<|Y;have zj:=qH<|Z;have s:=qH<|zk;rw[hz]at X;clear hq hz F N Q Y Z zk zo C;go_wp2_with fail;go_quiet_grown(first|(go_at_fn g;refine Calls.grown_of (X _ _)));have p:Hid (aK (grow (wr.drewN nq) osq) c off ((P++f)++[y]++[x]++(r++(A.drop (k+1)++S)))):=zn.below (gZ _ _ _);have m:Hid (w.grownBy (grow (wr.drewN nq) osq) (some c)):=grown_trans hgr2 (grown_below (gZ _ _ _));clear zn hgr2 c0 c1 X;generalize grow (wr.drewN nq) osq=wc at p m⊢;clear nq osq;by_cases T:z<0
     ·have hd:decide (z<0)=true:=by simp[T]
      rw[hd];have G:=HO.lt x L y (E y I).1 (by rw[HZ.out];exact T);have zy:Hid (∀y'∈y::r,R x y'):=by
       intro y' zg;rcases jX.1 zg with rfl|W;·exact G
       ·exact H2 y' W
      have zl:Hid (M=f++(y::r)):=by show _=_;rw[B.out];simp
      have zM:q<n:=dg;have zN:v<n:=dg;have c0:wc.cell? (aq c (off+q))=some (Iq y):=by rw[(p.2 q (by rw[s.out];omega)).1,zi.out]
      have f0:=(p.2 q (by rw[s.out];omega)).2;have c1:wc.cell? (aq c (off+v))=some (Iq x):=by rw[(p.2 v (by rw[s.out];omega)).1,zj.out]
      have f1:=(p.2 v (by rw[s.out];omega)).2;have zm:Hid (aK ((wc.setCell (aq c (off+v)) (Iq y)).setCell (aq c (off+q)) (Iq x)) c off (P++f++[x]++(y::r)++(A.drop (k+1)++S))):=by have:=ju p v q (by rw[s.out];omega) (by rw[s.out];omega);rw[zi.out,zj.out,wW _ _ _ (by rw[s.out];omega) (by rw[s.out];omega)]at this;have zv:=qf (P++f) y x (r++(A.drop (k+1)++S));rw[V.2,V.1]at zv;rw[zv]at this;show aK _ _ _ _;simpa[cd]using this
      have HG:Hid (w.grownBy ((wc.setCell (aq c (off+v)) (Iq y)).setCell (aq c (off+q)) (Iq x)) (some c)):=
       grown_trans m (grown_trans (dA _ _ _ _) (dA _ _ _ _));have Q:q<v:=by have:=V.1;omega
      clear p m G o;go_wp2;go_big_region;go_wp2;go_roundw;case rel=>exact⟨q,f,y::r,rfl,by have:=HQ.out;omega,by have:=HQ.out;omega,dg,zl,zy,zm,dM HG⟩
      case measure=>simp[intOf];omega
     ·have hd:decide (z<0)=false:=by simp[T]
      rw[hd];have G:=HO.ge y (E y I).1 x L (E y I).2 (by rw[HZ.out];exact T);obtain⟨M3,d1,d2,d3⟩:=o (by
       intro y' zg;rcases iD.1 zg with W|W;·have hp:=U.out;rw[B.out]at hp;have h4:=(gS.1 (gS.1 hp).1).2.2 y' W y At;exact HO.trans y' (E y' (by rw[B.out];simp[W])).1 y (E y I).1 x L h4 G
       ·rw[BV]at W;subst W;exact G);have d:Hid (aK wc c off (P++M3++A.drop (k+1)++S)):=by have:=p.out;show aK _ _ _ _;rw[<-d3];simpa[cd]using this
      have D1:=qH<|d1;have D2:=qH<|d2;clear d1 d2 d3 p o G;go_wp2;go_roundw;case rel=>exact⟨u+1,k+1,M3,by go_num,dg,dg,dg,Or.inl dg,D1,D2,d,m⟩
      case measure=>simp[intOf];omega
  ·have zu:¬(u:Int)<(b:Int):=dg
   have d:Hid (aK wr c off (P++M++S)):=by have:=J.out;rw[IM dg]at this;show aK _ _ _ _;simpa[cd]using this
   have zC:Hid (M.Perm A):=by have:=HM.out;rw[gT dg]at this;exact this
   clear J HM;go_wp2;go_end0;exact⟨rfl,⟨M,zC,U,d⟩,zt⟩
inductive ea(R:Int->Int->Prop)(s:Nat):List Int->List Int->Prop
 |nil:ea R s [] []
 |cons (T M L d:zzc):M.Perm T->M.Pairwise R->T.length<=s->(T.length=s\/L=[])->ea R s L d->ea R s (T++L) (M++d)
def sF(R:Int->Int->Prop)(s:Nat)(L1 Y:zzc):Prop:=∀L' d',ea R s L' d'->ea R s (L1++L') (Y++d')
theorem ea.len{R}{s}{L d}(h:ea R s L d):d.length=L.length:=by
 induction h with
 |nil=>rfl
 |cons T M L d a _ _ _ _ b=>rw[aI,aI,a.length_eq,b]
theorem ea.mem{R}{s}{L d}(h:ea R s L d):d.Perm L:=by
 induction h with
 |nil=>grind
 |cons T M L d a _ _ _ _ b=>grind
theorem ea.split{R}{s}{L d}(h:ea R s L d)(f:s<d.length):∃T M a d',L=T++a/\d=M++d'/\M.Perm T/\M.Pairwise R/\T.length=s/\ea R s a d':=by
 cases h with
 |nil=>simp at f
 |cons T M L d c i g b e=>
  rcases b with b|rfl;·grind
  ·have:=e.len;have:=c.length_eq;grind
theorem ea.one{R}{s}{L d}(h:ea R s L d)(f:0<s)(e:d.length<=s):d.Perm L/\d.Pairwise R:=by
 cases h with
 |nil=>simp_all
 |cons T M L d b k j a c=>
  have g:=c.len;have i:=b.length_eq;have:d=[]:=by
   rcases a with a|rfl;·simp only[aI]at e;exact ka dg
   ·grind
  grind
theorem ea.single{R}{s}{L d}(a:d.Perm L)(c:d.Pairwise R)(b:L.length<=s):ea R s L d:=by have:=ea.cons (R:=R) (s:=s) L d [] [] a c b (Or.inr rfl) .nil;grind
theorem sF.nil{R}{s}:sF R s [] []:=λ_ _ h=>h
theorem sF.snoc{R}{s}{a Y T M}(h:sF R s a Y)(c:M.Perm T)(f:M.Pairwise R)(e:T.length=s):sF R s (a++T) (Y++M):=λb d' d=>by rw[cd,cd];exact h _ _ (ea.cons T M b d' c f dg (Or.inl e) d)
theorem z'(g:Nat)(lb:Array Fd)(eg:∀args w,(callFunc g args).run prog w=.ok (.enter g args) w)(cf:Int->Int->Int)(D:zzc)(R:Int->Int->Prop)(hO:Ord cf D R)(w0:AT)(c off v:Nat)(zi:xH g lb cf D w0 c)(L:zzc)(w:AT)(n:Nat)(zH:w0.grownBy w (some c))(h:aK w c off L)(hD:∀x∈L,x∈D)(zu:L.Pairwise (·<·))(hn:L.length=n)(zk:n<=1099511627776):
 Cw 369 #[.slice (some (aq c off)) n v,Iq n,.func (.func g) #[] lb] w λe w'=>e=Rw (.tuple #[])/\Sorted w w' c off R [] L []:=by
 have HR:=qH<|h;have zt:=qH<|zH;have HD:=qH<|hD;have ze:=qH<|zu;have HN:=qH<|hn;have CI:=qH<|
  λP A S W a b k h2 h3 h4 h5 h6 h7=>J5 g lb eg cf D R hO w0 c off v zi P A S W n a b (grown_trans zt k) h2 h3 h4 h5 zk h6 h7;have CS:=qH<|
  λP A B S W a m b k h2 h3 h4 h5 h6 h7 h8 h9 zy zA zB zC=>BE g lb eg cf D R hO w0 c off v zi.ok (A.length+B.length) P A B S W n a m b (ad _) (grown_trans zt k) h2 h3 h4 h5 h6 h7 h8 h9 zy zk zA zB zC;go_enter func369,ntmps369;go_wp2;go_loopw[7,8] (λi j wr=>∃(a b:Nat) (Q T Y:zzc),i=Iq a/\j=Iq b/\b<=a+20/\a+20<=b/\a<=n/\Hid (a+T.length=n)/\Hid (Y.length=a)/\Hid (L=Q++T)/\Hid (sF R 20 Q Y)/\Hid (aK wr c off (Y++T))/\Hid (w.grownBy wr (some c))) (λi _ _=>n-(intOf i).toNat);case atStart=>exact⟨0,20,[],L,[],by go_num,by go_num,dg,dg,dg,rn,by show _=_;rfl,by show _=_;rfl,sF.nil,HR,cL _ _⟩
 case round=>
  obtain⟨a,b,Q,T,Y,rfl,rfl,zE,zF,zD,u,F,E,q,zl,zh⟩:=hrel;by_cases zq:b<=n
  ·have U:(b:Int)<=(n:Int):=dg
   have C:Hid (Cw 375 #[.slice (some (aq c off)) n v,Iq a,Iq b,.func (.func g) #[] lb] wr λe w'=>e=Rw (.tuple #[])/\Sorted wr w' c off R Y (T.take 20) (T.drop 20)):=by
    have:=u.out;have:=F.out;refine CI Y (T.take 20) (T.drop 20) wr a b zh ?_ ?_ ?_ ?_ F ?_;·rw[cd,eH];exact zl
    ·intro x H;exact HD x (by rw[E.out];grind)
    ·have k:=ze.out;rw[E.out]at k;grind
    ·grind
    ·grind
   go_wp2_with fail;refine C.mono ?_;rintro e w2 ⟨rfl,⟨M,N,X,Z⟩,g2⟩;have zn:Hid (b+(T.drop 20).length=n):=by show _=_;have:=u.out;rw[de];omega
   have zx:(T.take 20).length=20:=by have:=u.out;rw[cF];omega
   have zo:Hid ((Y++M).length=b):=by show _=_;have:=F.out;rw[aI,N.length_eq];omega
   have zm:Hid (L=(Q++T.take 20)++T.drop 20):=by show _=_;rw[cd,eH];exact E
   have O:=qH<|q.snoc N X zx;have f:=qH<|Z;have l:=qH<|grown_trans zh g2;go_wp2;go_roundw;case rel=>exact⟨b,b+20,Q++T.take 20,T.drop 20,Y++M,rfl,by go_num,dg,dg,zq,zn,zo,zm,O,f,l⟩
   case measure=>simp[intOf];omega
  ·have U:¬(b:Int)<=(n:Int):=dg
   have C:Hid (Cw 375 #[.slice (some (aq c off)) n v,Iq a,Iq n,.func (.func g) #[] lb] wr λe w'=>e=Rw (.tuple #[])/\Sorted wr w' c off R Y T []):=by
    have:=u.out;have:=F.out;refine CI Y T [] wr a n zh (by simpa using zl.out) ?_ ?_ ?_ F dg;·intro x H;exact HD x (by rw[E.out];grind)
    ·have k:=ze.out;rw[E.out]at k;grind
    ·grind
   go_wp2_with fail;refine C.mono ?_;rintro e w2 ⟨rfl,⟨M,N,X,Z⟩,g2⟩;have zJ:Hid (ea R 20 L (Y++M)):=by show ea R 20 L (Y++M);rw[E.out];exact q T M (ea.single N X (by have:=u.out;omega))
   have f:Hid (aK w2 c off (Y++M)):=by have:=Z;show aK _ _ _ _;simpa using this
   have l:=qH<|grown_trans zh g2;go_wp2;go_loopw[6] (λi wr=>∃(s:Nat) (d:zzc),i=Iq s/\20<=s/\s<=2*n+20/\Hid (ea R s L d)/\Hid (aK wr c off d)/\Hid (w.grownBy wr (some c))) (λi _=>n-(intOf i).toNat);case atStart=>grind
   case round=>
    obtain⟨s,d,rfl,zI,zM,z,V,zj⟩:=hrel;by_cases zL:s<n
    ·have zw:(s:Int)<(n:Int):=dg
     obtain⟨t,ht⟩:∃t:Nat,2*s=t:=⟨_,rfl⟩;have zN:(2:Int)*(s:Int)=(t:Int):=dg;have zO:(s:Int)*(2:Int)=(t:Int):=dg;go_wp2;go_loopw[7,8] (λi j wr=>∃(a b:Nat) (Q L' Y d':zzc),i=Iq a/\j=Iq b/\b<=a+t/\a+t<=b/\a<=n/\Hid (a+d'.length=n)/\Hid (Y.length=a)/\Hid (L=Q++L')/\Hid (sF R t Q Y)/\Hid (ea R s L' d')/\Hid (aK wr c off (Y++d'))/\Hid (w.grownBy wr (some c))) (λi _ _=>n-(intOf i).toNat);case atStart=>exact⟨0,t,[],L,[],d,by go_num,rfl,dg,dg,dg,by show _=_;have:=HN.out;have:=z.len;omega,by show _=_;rfl,by show _=_;rfl,sF.nil,z,V,zj⟩
     case round=>
      obtain⟨a,b,Q,L',Y,d',rfl,rfl,zE,zF,zD,u,F,E,q,r,p,o⟩:=hrel;by_cases zq:b<=n
      ·have U:(b:Int)<=(n:Int):=dg
       obtain⟨T1,M1,L2,d2,e1,e2,I,w1,l1,r1⟩:=r.split (by have:=u.out;omega);have zr:s<=d2.length:=by have k:=u.out;rw[e2,aI,I.length_eq]at k;omega
       obtain⟨T2,M2,L3,d3,f1,f2,J,K,l2,Z⟩:∃T M L' d',L2=T++L'/\d2=M++d'/\M.Perm T/\M.Pairwise R/\T.length=s/\ea R s L' d':=by
        by_cases hq:s<d2.length;·exact r1.split hq
        ·have ho:=r1.one dg dg;exact⟨L2,d2,[],[],At,At,ho.1,ho.2,by have:=r1.len;omega,.nil⟩
       subst e1;subst e2;subst f1;subst f2;obtain⟨m,hm⟩:∃m:Nat,a+s=m:=⟨_,rfl⟩;have zG:(a:Int)+(s:Int)=(m:Int):=dg;have hL:=E.out;have G:=ze.out;rw[hL]at G;have zg:=(gS.1 G).2.1;have C:Hid (Cw 376 #[.slice (some (aq c off)) n v,Iq a,Iq m,Iq b,.func (.func g) #[] lb] wr λe w'=>e=Rw (.tuple #[])/\oF wr w' c off R Y M1 M2 d3):=by
        have k:=u.out;have h2:=F.out;have q1:=I.length_eq;have q2:=J.length_eq;simp only[aI]at k;refine CS Y M1 M2 d3 wr a m b o (by simpa[cd]using p.out) ?_ ?_ w1 K ?_ dg dg (by simp only[aI];omega) F dg dg;·intro x H;exact HD x (by rw[hL];simp[I.mem_iff.1 H])
        ·intro x H;exact HD x (by rw[hL];simp[J.mem_iff.1 H])
        ·intro x H y hy;exact(gS.1 zg).2.2 x (I.mem_iff.1 H) y (iD.2 (Or.inl (J.mem_iff.1 hy)))
       have KP:Hid (M1.Perm T1/\M2.Perm T2/\T1.length=s/\T2.length=s):=⟨I,J,l1,l2⟩;have KR:=qH<|Z;go_wp2_with fail;refine C.mono ?_;rintro e w2 ⟨rfl,⟨M,N,X,Z⟩,g2⟩;have zn:Hid (b+d3.length=n):=by show _=_;have k:=u.out;have q1:=KP.1.length_eq;have q2:=KP.2.1.length_eq;have q3:=KP.2.2;simp only[aI]at k;omega
       have zo:Hid ((Y++M).length=b):=by show _=_;have k:=F.out;have q1:=KP.1.length_eq;have q2:=KP.2.1.length_eq;have q3:=KP.2.2;rw[aI,N.length_eq,aI];omega
       have zm:Hid (L=(Q++(T1++T2))++L3):=by show _=_;rw[E.out];simp[cd]
       have O:=qH<|q.snoc (N.trans (KP.1.append KP.2.1)) X (by have:=KP.2.2;rw[aI];omega);have f:=qH<|Z;have l:=qH<|grown_trans o g2;go_wp2;go_roundw;case rel=>exact⟨b,b+t,Q++(T1++T2),L3,Y++M,d3,rfl,by go_num,dg,dg,zq,zn,zo,zm,O,KR,f,l⟩
       case measure=>simp[intOf];omega
      ·have U:¬(b:Int)<=(n:Int):=dg
       obtain⟨m,hm⟩:∃m:Nat,a+s=m:=⟨_,rfl⟩;have zG:(a:Int)+(s:Int)=(m:Int):=dg;by_cases zK:m<n
       ·have zv:(m:Int)<(n:Int):=dg
        obtain⟨T1,M1,L2,d2,e1,e2,I,w1,l1,r1⟩:=r.split (by have:=u.out;omega);subst e1;subst e2;have zr:d2.length<=s:=by have k:=u.out;rw[aI,I.length_eq]at k;omega
        obtain⟨J,K⟩:=r1.one dg zr;have hL:=E.out;have G:=ze.out;rw[hL]at G;have zg:=(gS.1 G).2.1;have C:Hid (Cw 376 #[.slice (some (aq c off)) n v,Iq a,Iq m,Iq n,.func (.func g) #[] lb] wr λe w'=>e=Rw (.tuple #[])/\oF wr w' c off R Y M1 d2 []):=by
         have k:=u.out;have h2:=F.out;have q1:=I.length_eq;simp only[aI]at k;refine CS Y M1 d2 [] wr a m n o (by simpa[cd]using p.out) ?_ ?_ w1 K ?_ dg dg (by simp only[aI,en];omega) F dg dg;·intro x H;exact HD x (by rw[hL];simp[I.mem_iff.1 H])
         ·intro x H;exact HD x (by rw[hL];simp[J.mem_iff.1 H])
         ·intro x H y hy;exact(gS.1 zg).2.2 x (I.mem_iff.1 H) y (J.mem_iff.1 hy)
        have KE:Hid (∀M:List Int,M.Perm (M1++d2)->M.Pairwise R->ea R t L (Y++M)):=by intro M N X;have k:=u.out;rw[hL];refine q _ _ (ea.single (N.trans (I.append J)) X ?_);have q1:=I.length_eq;have q2:=J.length_eq;simp only[aI]at*;omega
        clear I J l1 r1 w1 K hm hL G zg zr;go_wp2_with fail;refine C.mono ?_;rintro e w2 ⟨rfl,⟨M,N,X,Z⟩,g2⟩;have KR:=qH<|KE M N X;have f:Hid (aK w2 c off (Y++M)):=by have:=Z;show aK _ _ _ _;simpa using this
        have l:=qH<|grown_trans o g2;clear N X Z g2 C p o u F E q r KE;go_wp2;go_roundw;case rel=>exact⟨t,Y++M,rfl,dg,dg,KR,f,l⟩
        case measure=>simp[intOf];omega
       ·have zv:¬(m:Int)<(n:Int):=dg
        have KR:Hid (ea R t L (Y++d')):=by show ea R t L (Y++d');have k:=u.out;obtain⟨J,K⟩:=r.one dg dg;rw[E.out];exact q _ _ (ea.single J K (by have:=J.length_eq;omega))
        clear u F E q r hm;go_wp2;go_roundw;case rel=>exact⟨t,Y++d',rfl,dg,dg,KR,p,o⟩
        case measure=>simp[intOf];omega
    ·have zw:¬(s:Int)<(n:Int):=dg
     have HF:=qH<|z.one dg (by have:=z.len;have:=HN.out;omega);go_wp2;go_end0;exact⟨rfl,⟨d,HF.1,HF.2,by simpa using V.out⟩,zj⟩
theorem jc(g:Nat)(k:Array Fd)(s:∀args w,(callFunc g args).run prog w=.ok (.enter g args) w)(j:Int->Int->Int)(D:zzc)(R:Int->Int->Prop)(o:Ord j D R)(l:AT)(a off d:Nat)(c:xH g k j D l a)(L:zzc)(w:AT)(n:Nat)(i:l.grownBy w (some a))(h:aK w a off L)(m:∀x∈L,x∈D)(b:L.Pairwise (·<·))(p:L.length=n)(f:n<=1099511627776):
 Cw 352 #[.slice (some (aq a off)) n d,.func (.func g) #[] k] w λe w'=>e=Rw (.tuple #[])/\Sorted w w' a off R [] L []:=by
 have C:=qH<|
  z' g k s j D R o l a off d c L w n i h m b p f;clear h o i c m b p;go_enter func352,ntmps352;go_wp2_with fail;refine C.mono ?_;rintro e t ⟨rfl,q⟩;have r:=qH<|q;clear q C;go_wp2;go_end0;exact⟨rfl,r⟩
theorem J6(a:Fd)(w:AT):
 Cw 375 #[.slice none 0 0,Iq 0,Iq 0,a] w λe w'=>e=Rw (.tuple #[])/\w'=w:=by
 go_enter func375,ntmps375;go_wp2;go_loopw[8] (λi wr=>i=Iq 1/\wr=w) (λi _=>0);case atStart=>grind
 case round=>obtain⟨rfl,rfl⟩:=hrel;go_wp2;go_end0;simp_all
theorem Aa(a:Fd)(w:AT):
 Cw 369 #[.slice none 0 0,Iq 0,a] w λe w'=>e=Rw (.tuple #[])/\w'=w:=by
 go_enter func369,ntmps369;go_wp2;go_loopw[7,8] (λi j wr=>i=Iq 0/\j=Iq 20/\wr=w) (λi _ _=>0);case atStart=>grind
 case round=>
  obtain⟨rfl,rfl,rfl⟩:=hrel;go_wp2_with fail;refine(J6 a wr).mono ?_;rintro e b ⟨rfl,rfl⟩;go_wp2;go_loopw[6] (λi wr=>i=Iq 20/\wr=b) (λi _=>0);case atStart=>grind
  case round=>obtain⟨rfl,rfl⟩:=hrel;go_wp2;go_end0;simp_all
theorem p_(a:Fd)(w:AT):
 Cw 352 #[.slice none 0 0,a] w λe w'=>e=Rw (.tuple #[])/\w'=w:=by go_enter func352,ntmps352;go_wp2_with fail;refine(Aa a w).mono ?_;rintro e b ⟨rfl,rfl⟩;go_wp2;go_end0;grind
def gE(x y:Int):Int:=if x<y then-1 else if y<x then 1 else 0
theorem pm(x:Int)(w:AT):
 Cw 297 #[Iq x] w λe w'=>e=Rw (.bool false)/\w'=w:=by go_enter func297,ntmps297;go_wp2;go_ret;simp_all
theorem mU(x y:Int)(w:AT):
 Cw 354 #[Iq x,Iq y] w λe w'=>e=Rw (Iq (gE x y))/\w'=w:=by
 obtain⟨z,d⟩:=af (gE x y);have b:=qH<|d;rw[d];clear d;by_cases c:x<y
 ·have a:z=-1:=by have:=b.out;unfold gE at this;rw[if_pos c]at this;exact this.symm
  subst a;go_enter func354,ntmps354;go_wp2_with(refine(pm _ _).mono ?_;rintro e g ⟨rfl,rfl⟩);try go_wp2
  go_ret;simp_all
 ·by_cases f:y<x
  ·have a:z=1:=by have:=b.out;unfold gE at this;rw[if_neg c,if_pos f]at this;exact this.symm
   subst a;go_enter func354,ntmps354;go_wp2_with(refine(pm _ _).mono ?_;rintro e g ⟨rfl,rfl⟩);go_ret;simp_all
  ·have a:z=0:=by have:=b.out;unfold gE at this;rw[if_neg c,if_neg f]at this;exact this.symm
   subst a;go_enter func354,ntmps354;go_wp2_with(refine(pm _ _).mono ?_;rintro e g ⟨rfl,rfl⟩);go_ret;simp_all
def gb(d:zzc):Nat->Int->List Int->List Int
 |0,_,Y=>Y
 |c+1,m,Y=>gb d c (m-min m (d[c]?.getD 0)) ((d[c]?.getD 0-min m (d[c]?.getD 0))::Y)
theorem Dm{W}{a off}{d}(h:aK W a off d)i y(hi:i<d.length):aK (W.setCell (aq a (off+i)) (Iq y)) a off (d.set i y):=by
 refine⟨by simpa using h.1,λk b=>?_⟩;rw[IW]at b;simp only[eG];refine⟨?_,(h.2 k b).2⟩;have f:=(h.2 k b).1;by_cases c:k=i;·subst c;rw[nA _ _ _ rn];simp[b]
 ·rw[b_ _ _ _ _ (λe=>c rn),f,qm (λe=>c e.symm)]
theorem LV(X:zzc)x y Y:(X++[x]++Y).set X.length y=X++(y::Y):=rn
theorem ti(d:zzc)(a off D:Nat)(b:Int)(w:AT)(n:Nat)(h:aK w a off d)(M:d.length=n)(L:n<=1099511627776)(hd:∀x∈d,0<=x/\x<=1099511627776)(F:0<=b/\b<=1099511627776):
 Cw 306 #[.slice (some (aq a off)) n D,Iq b] w λe w'=>e=Rw (.tuple #[])/\aK w' a off (gb d n b [])/\w.grownBy w' (some a):=by
 have Q:=qH<|h;have J:=qH<|M;have P:=qH<|hd;have G:=F.1;have H:=F.2;clear h M hd F;go_enter func306,ntmps306;go_wp2;go_loopw[1,4] (λm i wr=>∃(c:Nat) (j q:Int) (Y:zzc),m=Iq j/\i=Iq q/\q<=(c:Int)-1/\(c:Int)-1<=q/\c<=n/\0<=j/\j<=1099511627776/\Hid (gb d c j Y=gb d n b [])/\Hid (c+Y.length=n)/\Hid (aK wr a off (d.take c++Y))/\Hid (w.grownBy wr (some a))) (λ_ i _=>(intOf i+1).toNat);case atStart=>exact⟨n,b,(n:Int)-1,[],rfl,by go_num,dg,dg,ad _,G,H,by show _=_;rfl,by show _=_;rfl,by show aK _ _ _ _;rw[iC,gT (by rw[J.out];omega)];exact Q,cL _ _⟩
 case round=>
  obtain⟨c,j,q,Y,rfl,rfl,h1,h2,V,W,X,B,z,g,l⟩:=hrel;match c with
  |0=>
   have N:¬(0:Int)<=q:=dg;go_wp2;go_end0;exact⟨rfl,by have:=g.out;have h0:=B.out;simp_all[gb],l⟩
  |c+1=>
   have O:(0:Int)<=q:=dg;obtain rfl:q=(c:Int):=dg;obtain⟨x,I⟩:=af (d[c]?.getD 0);have v:c<d.length:=by rw[J.out];omega
   have p:=P x rn;have Z:=p.1;have ze:=p.2;have K:(c:Int)<(n:Int):=dg;have o:=(gM d c v).1;rw[I]at o;have f:=g.out;rw[o]at f;have k:(d.take c).length=c:=by rw[cF];omega
   have R:(d.take c++[x]++Y).length=n:=by have:=z.out;simp only[aI,cF,cN,en];omega
   have t:(d.take c++[x]++Y)[c]?.getD 0=x:=by
    have:(d.take c++[x]++Y)[(d.take c).length]?.getD 0=x:=by simp[cd]
    rw[k]at this;exact this
   have c0:wr.cell? (aq a (off+c))=some (Iq x):=by rw[(f.2 c dg).1,t]
   have f0:=(f.2 c dg).2;obtain⟨bk,u⟩:=af (min j x);have s:Hid (aK (wr.setCell (aq a (off+c)) (Iq (x-bk))) a off (d.take c++((x-bk)::Y))):=by have:=Dm f c (x-bk) dg;have e:=LV (d.take c) x (x-bk) Y;rw[k]at e;rw[e]at this;exact this
   have r:Hid (gb d c (j-bk) ((x-bk)::Y)=gb d n b []):=by have:=B.out;simp only[gb]at this;rw[I,u]at this;exact this
   have A:Hid (c+((x-bk)::Y).length=n):=by show _=_;have:=z.out;simp only[cN];omega
   have C:Hid (w.grownBy (wr.setCell (aq a (off+c)) (Iq (x-bk))) (some a)):=grown_trans l (dA _ _ _ _);have S:bk<=j:=dg;have T:bk<=x:=dg;have U:0<=bk:=dg;have y:bk=j/\j<=x\/bk=x/\x<j:=dg;clear I p o f k R t g l B z u v;rcases y with⟨rfl,E⟩|⟨rfl,E⟩
   ·rw[Int.sub_self]at r;go_wp2;go_roundw;case rel=>grind
    case measure=>simp[intOf]<;>omega
   ·rw[Int.sub_self]at r A s C;go_wp2;go_roundw;case rel=>grind
    case measure=>simp[intOf]<;>omega
section
def an(f:zzb)(l:zzh):Int:=(l.map f).sum
theorem qe f:an f []=0:=rfl
theorem bp f j l:an f (j::l)=f j+an f l:=by simp[an]
theorem je f l m:an f (l++m)=an f l+an f m:=by simp[an]
theorem fy f l j:an f (l++[j])=an f l+f j:=by simp[an]
theorem jG{f}{l m}(h:l.Perm m):an f l=an f m:=by
 induction h with
 |nil=>rfl
 |cons x _ c=>grind[bp]
 |swap x y l=>simp only[bp];omega
 |trans _ _ a b=>omega
theorem iu{f g}{l}(h:∀j∈l,f j<=g j):an f l<=an g l:=by
 induction l with
 |nil=>exact gR _
 |cons a l b=>grind[bp]
theorem aX{f g}{l}(h:∀j∈l,f j=g j):an f l=an g l:=
 Int.le_antisymm (iu λj a=>Int.le_of_eq (h j a)) (iu λj a=>Int.le_of_eq (h j a).symm)
theorem eZ f g l:an (λj=>f j+g j) l=an f l+an g l:=by
 induction l with
 |nil=>rfl
 |cons a l b=>grind[bp]
theorem dI c f l:an (λj=>c*f j) l=c*an f l:=by
 induction l with
 |nil=>simp[an]
 |cons a l b=>grind[bp]
theorem cD{f}{l}(h:∀j∈l,0<=f j):0<=an f l:=by
 induction l with
 |nil=>exact gR _
 |cons a l b=>grind[bp]
theorem ir{f}{l}{b}(h:∀j∈l,f j<=b):an f l<=(l.length:Int)*b:=by
 induction l with
 |nil=>simp[an]
 |cons a l d=>have:=h a At;have:=d λj c=>h j (by simp[c]);rw[bp,cN,Int.natCast_add,BU];omega
theorem gL{f}{l}(h:∀j∈l,0<=f j){i}(hi:i∈l):f i<=an f l:=by
 induction l with
 |nil=>grind
 |cons a l e=>have c:=h a At;have d:0<=an f l:=cD λj b=>h j (by simp[b]);grind[bp]
theorem jg{f}{l A}(g:l.Nodup)(k:A.Nodup)(c:∀j∈A,j∈l)(b:∀j∈l,j∉A->f j=0):an f l=an f A:=by
 induction A generalizing l with
 |nil=>
  rw[qe];have:=aX λj e=>b j e At;rw[this];clear this b c g;induction l with
  |nil=>rfl
  |cons a l i=>grind[bp]
 |cons a A i=>have d:=c a At;have h:=List.perm_cons_erase d;rw[jG h,bp,bp];grind
variable{Mn Mx Wt:zzb}
theorem De{A B}{i}{L W}(q:∀j,0<=Mx j-Mn j)(l:∀j∈A,0<Wt j/\(Mx j-Mn j)*Wt i<=(Mx i-Mn i)*Wt j)(hi:0<Wt i)(m:∀j∈B,0<Wt j)(o:W=an Wt (i::B))(e:(Mx i-Mn i)*W<=L*Wt i):
 0<=L-(Mx i-Mn i)/\∀j∈A++[i],(Mx j-Mn j)*(W-Wt i)<=(L-(Mx i-Mn i))*Wt j:=by
 have n:=cD λj a=>Int.le_of_lt (m j a);rw[bp]at o;have f:=q i;have k:(Mx i-Mn i)*Wt i<=(Mx i-Mn i)*W:=Nj dg f;have s:=Nk (gU k e) hi;have b:0<=W-Wt i:=dg;have c:(Mx i-Mn i)*(W-Wt i)<=(L-(Mx i-Mn i))*Wt i:=by rw[Int.mul_sub (Mx i-Mn i) W (Wt i),Int.sub_mul L (Mx i-Mn i) (Wt i)];omega
 refine⟨dg,λj a=>?_⟩;rcases iD.1 a with a|a
 ·obtain⟨p,d⟩:=l j a;have g:=jl d b;have h:(Mx i-Mn i)*(W-Wt i)*Wt j<=(L-(Mx i-Mn i))*Wt i*Wt j:=jl c dg;have r:(Mx j-Mn j)*(W-Wt i)*Wt i<=(L-(Mx i-Mn i))*Wt j*Wt i:=by rw[fe (Mx j-Mn j),fe (L-(Mx i-Mn i))];refine gU g ?_;rw[fe (Mx i-Mn i)];exact h
  simp_all
 grind
theorem Dy{B}{i}{L W}(hi:0<Wt i)(j:0<W)(g:∀k∈B,0<Wt k/\(Mx i-Mn i)*Wt k<=(Mx k-Mn k)*Wt i)(a:L*Wt i<(Mx i-Mn i)*W):∀k∈i::B,L*Wt k<(Mx k-Mn k)*W:=by
 intro k b;rcases jX.1 b with rfl|b;·exact a
 ·obtain⟨e,f⟩:=g k b;have c:=IX a e;have d:(Mx i-Mn i)*Wt k*W<=(Mx k-Mn k)*Wt i*W:=jl f dg;have h:L*Wt k*Wt i<(Mx k-Mn k)*W*Wt i:=by rw[fe L,fe (Mx k-Mn k)];refine nE c ?_;rw[fe (Mx i-Mn i)];exact d
  simp_all
theorem ic{S}{L W}(c:W=an Wt S)(b:0<W):0<=L-an (λj=>L*Wt j/W) S/\L-an (λj=>L*Wt j/W) S<S.length:=by
 have e:an (λj=>L*Wt j) S=W*an (λj=>L*Wt j/W) S+an (λj=>L*Wt j %W) S:=by rw[<-dI,<-eZ];exact aX λj _=>(Int.mul_ediv_add_emod _ _).symm
 rw[dI,<-c]at e;have f0:0<=an (λj=>L*Wt j %W) S:=cD λj _=>BW _ dg;have f1:an (λj=>L*Wt j %W) S<=(S.length:Int)*(W-1):=ir λj _=>by have:=IY (L*Wt j) b;omega
 have hS:S≠[]:=by intro h;rw[h,qe]at c;omega
 have d:(0:Int)<S.length:=by have:=iF.2 hS;omega
 obtain⟨q,f⟩:=af (an (λj=>L*Wt j/W) S);rw[f]at e⊢;have g:W*(L-q)=an (λj=>L*Wt j %W) S:=by rw[Int.mul_sub,gd W L];omega
 refine⟨?_,?_⟩;·exact Int.le_of_mul_le_mul_left dg b
 ·refine Int.lt_of_mul_lt_mul_left (a:=W) ?_ dg;grind
structure bF(n:Nat)(Mn Mx Wt:zzb)(r:Int)(a:zzb)(A S:zzh)(L W:Int)(m:Nat):Prop where
 perm:(A++S).Perm ((List.range n).filter λj=>decide (0<Wt j))
 left:L=r-an Mn (List.range n)-an (λj=>Mx j-Mn j) A
 pos:0<=L
 weight:W=an Wt S
 full:∀j∈A,(Mx j-Mn j)*W<=L*Wt j
 open_:∀j∈S,L*Wt j<(Mx j-Mn j)*W
 miss:S≠[]->(m:Int)=L-an (λj=>L*Wt j/W) S
 none_:S=[]->m=0
 sorted:S.Pairwise λi k=>L*Wt k %W<L*Wt i %W\/(L*Wt i %W=L*Wt k %W/\i<k)
 is:∀j,j<n->a j=if j∈A then Mx j else if j∈S then Mn j+L*Wt j/W+(if j∈S.take m then 1 else 0)else Mn j
theorem bF.facts{n}{r}{a}{A S}{L W}{m}(h:bF n Mn Mx Wt r a A S L W m):
 A.Nodup/\S.Nodup/\(∀j∈A,j∉S)/\(∀j∈A,j<n/\0<Wt j)/\(∀j∈S,j<n/\0<Wt j)/\(∀j,j<n->0<Wt j->j∈A\/j∈S):=by
 have b:((List.range n).filter λj=>decide (0<Wt j)).Nodup:=sw.filter _;have c:=h.perm.nodup_iff.2 b;rw[IK]at c;have d:∀j,j∈A++S↔j<n/\0<Wt j:=λj=>by rw[h.perm.mem_iff];simp
 grind
theorem C7{x y W:Int}(a:0<W)(h:x<y*W):x/W+1<=y:=by have:=Int.ediv_lt_of_lt_mul a h;omega
theorem bF.bds{n}{r}{a}{A S}{L W}{m}(h:bF n Mn Mx Wt r a A S L W m)(l:∀j,Mn j<=Mx j)(d:∀j,0<=Wt j):
 ∀j,j<n->Mn j<=a j/\a j<=Mx j/\(Wt j=0->a j=Mn j):=by
 obtain⟨q,hS,hd,o,f,e⟩:=h.facts;intro j i;rw[h.is j i];have:=l j;have:=d j;by_cases g:j∈A;·grind
 ·rw[if_neg g];by_cases c:j∈S
  ·rw[if_pos c];have b:0<W:=by rw[h.weight];exact nE (f j c).2 (gL (λk _=>d k) c)
   have:=C7 b (h.open_ j c);have p:0<=L*Wt j/W:=BX (gV h.pos (d j)) dg;grind
  grind
theorem wX S(hS:S.Nodup)m(c:m<=S.length):an (λj=>if j∈S.take m then 1 else 0) S=m:=by
 have e:an (λj=>if j∈S.take m then(1:Int)else 0) S=an (λj=>if j∈S.take m then(1:Int)else 0) (S.take m):=
  jg hS (hS.sublist (List.take_sublist _ _)) (λj b=>nF b) (λj _ b=>if_neg b);rw[e,aX (g:=λ_=>1) (λj b=>if_pos b)];have:∀l:List Nat,an (λ_=>(1:Int)) l=l.length:=by
  intro l;induction l with
  |nil=>rfl
  |cons a l d=>grind[bp]
 grind
theorem bF.sum{n}{r}{a}{A S}{L W}{m}(h:bF n Mn Mx Wt r a A S L W m)(v:∀j,0<=Wt j):
 (S≠[]->an a (List.range n)=r)/\(S=[]->an a (List.range n)=an (λj=>if 0<Wt j then Mx j else Mn j) (List.range n)/\L=r-an a (List.range n)):=by
 obtain⟨q,hS,hd,w,p,f⟩:=h.facts;have g:(List.range n).Nodup:=sw;have e:an a (List.range n)=an Mn (List.range n)+an (λj=>(if j∈A then Mx j-Mn j else 0)+(if j∈S then L*Wt j/W+(if j∈S.take m then 1 else 0)else 0)) (List.range n):=by
  rw[<-eZ];refine aX λj b=>?_;rw[h.is j rn];by_cases y:j∈A;·grind
  ·grind
 have l:an (λj=>if j∈A then Mx j-Mn j else 0) (List.range n)=an (λj=>Mx j-Mn j) A:=by rw[jg (A:=A) g q (λj b=>rn) (λj _ b=>if_neg b)];exact aX λj b=>if_pos b
 have o:an (λj=>if j∈S then L*Wt j/W+(if j∈S.take m then 1 else 0)else 0) (List.range n)=an (λj=>L*Wt j/W) S+an (λj=>if j∈S.take m then 1 else 0) S:=by rw[jg (A:=S) g hS (λj b=>rn) (λj _ b=>if_neg b),<-eZ];exact aX λj b=>if_pos b
 rw[eZ,l,o]at e;have z:=h.left;refine⟨λc=>?_,λt=>?_⟩
 ·have d:0<W:=by obtain⟨x,i⟩:=xo S c;rw[h.weight];exact nE (p x i).2 (gL (λk _=>v k) i)
  have u:=h.miss c;have s:=ic (L:=L) h.weight d;rw[<-u]at s;grind[wX]
 ·subst t;simp only[qe]at e;refine⟨?_,dg⟩;refine aX λj b=>?_;rw[h.is j (by simpa using b)];grind
theorem bF.tiles{n}{r}{a}{A S}{L W}{m}(h:bF n Mn Mx Wt r a A S L W m)(e:∀j,Mn j<=Mx j)(b:∀j,0<=Wt j):
 an a (List.range n)=min r (an (λj=>if 0<Wt j then Mx j else Mn j) (List.range n)):=by
 have d:=h.sum b;have f:=h.bds e b;by_cases c:S=[];·have:=d.2 c;have:=h.pos;omega
 grind[an,iu]
theorem uL d(hd:∀i,i<d.length->0<=d[i]?.getD 0):∀  c   m   Y,c<=d.length->0<=m->m<=(d.take c).sum->
 ∃X,gb d c m Y=X++Y/\X.length=c/\(∀i,i<c->0<=X[i]?.getD 0/\X[i]?.getD 0<=d[i]?.getD 0)/\X.sum=(d.take c).sum-m/\(∀i k,i<k->k<c->X[i]?.getD 0<d[i]?.getD 0->X[k]?.getD 0=0)/\(m=0->∀i,i<c->X[i]?.getD 0=d[i]?.getD 0)
 |0,m,Y,_,f,h=>⟨[],rfl,rfl,λi hi=>dg,rn,λi k _ b=>dg,λ_ i hi=>dg⟩
 |c+1,m,Y,s,f,h=>by
  have n:=hd c dg;have l:(d.take (c+1)).sum=(d.take c).sum+d[c]?.getD 0:=by rw[gW dg,cW dg,IZ];simp only[List.sum_cons,List.sum_nil,I0];omega
  have j:0<=(d.take c).sum:=by
   have:∀k,k<=d.length->0<=(d.take k).sum:=by
    intro k b;induction k with
    |zero=>simp
    |succ k o=>have p:=o dg;have q:=hd k dg;rw[gW dg];grind
   exact this c dg
  obtain⟨x,a⟩:=af (d[c]?.getD 0);rw[a]at n l;obtain⟨X,e,g,r,t,b,u⟩:=uL d hd c (m-min m x) ((x-min m x)::Y) dg dg dg;refine⟨X++[x-min m x],by grind[gb],by simp[g],?_,?_,?_,?_⟩;·grind
  all_goals grind
end
theorem FF(F:zzc)(g b c s:Nat)(W:AT)(t:W.cell? (aq g 0)=some (.slice (some (aq b c)) F.length s))(hF:∀j,j<F.length->W.cell? (aq b (c+j))=some (Iq (F[j]?.getD 0)))(i k:Nat)(hi:i<F.length)(l:k<F.length)(a:F.length<=1099511627776):
 Cw 355 #[Iq i,Iq k,Pq g] W λe r=>e=Rw (Iq (gE (F[k]?.getD 0) (F[i]?.getD 0)))/\∃q os,r=grow (W.drewN q) os:=by
 obtain⟨n,o⟩:=af F.length;obtain⟨x,d⟩:=af (F[i]?.getD 0);obtain⟨y,hy⟩:=af (F[k]?.getD 0);have A:W.cell? (aq b (c+i))=some (Iq x):=by rw[hF i hi,d]
 have c1:W.cell? (aq b (c+k))=some (Iq y):=by rw[hF k l,hy]
 have w:prog.follows .mixedOrders=true:=pt;rw[o]at t hi l a;rw[d,hy];have u:(i:Int)<(n:Int):=dg;have v:(k:Int)<(n:Int):=dg;obtain⟨z,f⟩:=af (gE y x);have p:=qH<|λm=>by have:=mU y x (W.drewN m);rw[f]at this;exact this
 rw[f];clear hF o d hy f;go_enter func355,ntmps355;go_wp2_with fail;go_quiet(first|(go_at_call 354;exact(p _).mono (λe w' h=>⟨h.1,_,h.2⟩)));go_wp2;go_ret;exact⟨rfl,_,#[],(grow_empty _).symm⟩
theorem Is(W:AT)a b:∃q os,((W.alloc a).alloc b).drew=grow (W.drewN q) os:=
 ⟨1,#[a]++#[b],by rw[alloc_eq_grow,alloc_eq_grow,grow_grow];rfl⟩
theorem FB(n o b d wc:Nat)(W:AT)(P:W.cell? (aq o 0)=some (.slice (some (aq b d)) n wc))(i k:Nat)(f g h j l m:Int)(E:W.cell? (aq b (d+i*3))=some (Iq f))(F:W.cell? (aq b (d+i*3+1))=some (Iq g))(G:W.cell? (aq b (d+i*3+2))=some (Iq h))(H:W.cell? (aq b (d+k*3))=some (Iq j))(I:W.cell? (aq b (d+k*3+1))=some (Iq l))(J:W.cell? (aq b (d+k*3+2))=some (Iq m))(c:0<=g-f/\g-f<=1073741824/\0<=h/\h<=1073741824)(a:0<=l-j/\l-j<=1073741824/\0<=m/\m<=1073741824)(hi:i<n)(Q:k<n)(y:n<=1099511627776)(K:o<W.heap.size)(O:b<W.heap.size):
 Cw 353 #[Iq i,Iq k,Pq o] W λe D=>e=Rw (Iq (gE ((g-f)*m) ((l-j)*h)))/\∃q os,D=grow (W.drewN q) os:=by
 have N:prog.follows .mixedOrders=true:=pt;have L:(i:Int)<(n:Int):=dg;have M:(k:Int)<(n:Int):=dg;obtain⟨r,t⟩:=af (g-f);obtain⟨s,u⟩:=af (l-j);rw[t]at c⊢;rw[u]at a⊢;obtain⟨p,A⟩:=af (r*m);obtain⟨q,B⟩:=af (s*h);have v:0<=p/\p<=1152921504606846976:=by rw[<-A];refine⟨gV c.1 a.2.2.1,?_⟩;exact gU (kh c.2.1 a.2.2.2 a.2.2.1 dg) (by decide)
 have w:0<=q/\q<=1152921504606846976:=by rw[<-B];refine⟨gV a.1 c.2.2.1,?_⟩;exact gU (kh a.2.1 c.2.2.2 c.2.2.1 dg) (by decide)
 have R:IntKind.i64.wrap r=r:=IntWalk.i64_in _ ⟨dg,dg⟩;have S:IntKind.i64.wrap s=s:=IntWalk.i64_in _ ⟨dg,dg⟩;have w3:IntKind.i64.wrap p=p:=IntWalk.i64_in _ ⟨dg,dg⟩;have T:IntKind.i64.wrap q=q:=IntWalk.i64_in _ ⟨dg,dg⟩;obtain⟨z,x⟩:=af (gE p q);have C:=qH<|λw'=>by have:=mU p q w';rw[x]at this;exact this
 rw[A,B,x];clear x v w c a;go_enter func353,ntmps353;go_wp2_with fail;go_big_region;all_goals(go_wp2_with(go_at_call 354;refine(C _).mono ?_;rintro e U ⟨rfl,rfl⟩))
 all_goals go_ret
 all_goals simp_all[Is]
theorem ol x y:gE x y<0↔x<y:=by grind[gE]
theorem AG x y:-1<=gE x y/\gE x y<=1:=by grind[gE]
def rk(F:Int->Int)(i k:Int):Prop:=F k<F i\/(F i=F k/\i<k)
theorem Hc F D:Ord (λi k=>gE (F k) (F i)) D (rk F)where
 lt:=λx _ y _ h=>Or.inl ((ol _ _).1 h)
 ge:=λx _ y _ a h=>by
  have d:¬F x<F y:=λc=>h ((ol _ _).2 c);by_cases e:F x=F y;·exact Or.inr ⟨e,a⟩
  ·exact Or.inl dg
 trans:=λx _ y _ z _ d c=>by grind[rk]
 bd:=λx _ y _=>AG _ _
def ug(M V:Int->Int)(i k:Int):Prop:=M i*V k<M k*V i\/(M i*V k=M k*V i/\i<k)
theorem Fj{a b c u v w:Int}(hu:0<u)(i:0<v)(j:0<w)(f:a*v<=b*u)(g:b*w<=c*v):a*w<=c*u:=by
 have d:a*v*w<=b*u*w:=jl f dg;have e:b*w*u<=c*v*u:=jl g dg;have h:a*w*v<=c*u*v:=by rw[fe a w v,fe c u v];refine gU d ?_;rw[fe b u w];exact e
 simp_all
theorem Fl{a b c u v w:Int}(hu:0<u)(k:0<v)(h:0<w)(f:a*v<=b*u)(g:b*w<=c*v)(d:a*v<b*u\/b*w<c*v):a*w<c*u:=by
 have e:a*v*w<=b*u*w:=jl f dg;have i:b*w*u<=c*v*u:=jl g dg;have j:a*w*v<c*u*v:=by
  rw[fe a w v,fe c u v];rcases d with d|d;·refine nE (IX d h) ?_;grind
  ·refine Int.lt_of_le_of_lt e ?_;rw[fe b u w];simp_all
 simp_all
theorem Hb M V D(a:∀i∈D,0<V i):Ord (λi k=>gE (M i*V k) (M k*V i)) D (ug M V)where
 lt:=λx _ y _ h=>Or.inl ((ol _ _).1 h)
 ge:=λx _ y _ f h=>by
  have c:¬M y*V x<M x*V y:=λb=>h ((ol _ _).2 b);by_cases e:M x*V y=M y*V x;·exact Or.inr ⟨e,f⟩
  ·exact Or.inl dg
 trans:=λx j y hy z l c b=>by
  have m:M x*V y<=M y*V x:=by rcases c with h|⟨h,_⟩<;>omega
  have n:M y*V z<=M z*V y:=by rcases b with h|⟨h,_⟩<;>omega
  by_cases d:M x*V y<M y*V x\/M y*V z<M z*V y;·exact Or.inl (Fl (a x j) (a y hy) (a z l) m n d)
  ·have o:¬M x*V y<M y*V x:=λh=>d (Or.inl h);have p:¬M y*V z<M z*V y:=λh=>d (Or.inr h);have q:x<y:=by rcases c with h|⟨_,h⟩;exact(o h).elim;exact h
   have r:y<z:=by rcases b with h|⟨_,h⟩;exact(p h).elim;exact h
   have c1:=Fj (a x j) (a y hy) (a z l) m n;by_cases e:M x*V z=M z*V x;·exact Or.inr ⟨e,dg⟩
   ·exact Or.inl dg
 bd:=λx _ y _=>AG _ _
theorem CJ(F:zzc)c d e g a f(m:f.cell? (aq c 0)=some (.slice (some (aq d e)) F.length g))(hF:∀j,j<F.length->f.cell? (aq d (e+j))=some (Iq (F[j]?.getD 0)))(D:zzc)(h:∀x∈D,∃j:Nat,x=j/\j<F.length)(b:F.length<=1099511627776)(q:c≠a)(r:d≠a):
 xH 355 #[Pq c] (λi k=>gE (F[k.toNat]?.getD 0) (F[i.toNat]?.getD 0)) D f a:=by intro W l x p y hy;obtain⟨i,rfl,hi⟩:=h x p;obtain⟨k,rfl,o⟩:=h y hy;exact FF F c d e g W (l.cell m rn) (λj n=>l.cell (hF j n) rn) i k hi o b
theorem CF n f d l wc b(Mn Mx Wt:zzb)c(p:c.cell? (aq f 0)=some (.slice (some (aq d l)) n wc))(e:∀j,j<n->c.cell? (aq d (l+j*3))=some (Iq (Mn j))/\c.cell? (aq d (l+j*3+1))=some (Iq (Mx j))/\c.cell? (aq d (l+j*3+2))=some (Iq (Wt j)))(o:∀j,j<n->0<=Mx j-Mn j/\Mx j-Mn j<=1073741824/\0<=Wt j/\Wt j<=1073741824)(D:zzc)(m:∀x∈D,∃j:Nat,x=j/\j<n)(h:n<=1099511627776)(t:f≠b)(u:d≠b)(r:f<c.heap.size)(s:d<c.heap.size):
 xH 353 #[Pq f] (λi k=>gE ((Mx i.toNat-Mn i.toNat)*Wt k.toNat) ((Mx k.toNat-Mn k.toNat)*Wt i.toNat)) D c b:=by intro W a x q y hy;obtain⟨i,rfl,hi⟩:=m x q;obtain⟨k,rfl,g⟩:=m y hy;exact FB n f d l wc W (a.cell p rn) i k (Mn i) (Mx i) (Wt i) (Mn k) (Mx k) (Wt k) (a.cell (e i hi).1 rn) (a.cell (e i hi).2.1 rn) (a.cell (e i hi).2.2 rn) (a.cell (e k g).1 rn) (a.cell (e k g).2.1 rn) (a.cell (e k g).2.2 rn) (o i hi) (o k g) hi g h (zz006 r a.size) (zz006 s a.size)
theorem OQ:(prog.info? 3).map (λi=>(i.zero,i.size,i.bytes))=some (some (Iq 0),1,8):=pt
def cK(l:zzh):List Int:=l.map fun(j:Nat)=>(j:Int)
theorem dw l:(cK l).length=l.length:=by simp[cK]
theorem G9 l m:cK (l++m)=cK l++cK m:=by simp[cK]
theorem lA{l}{x}(h:x∈cK l):∃j:Nat,x=j/\j∈l:=by obtain⟨j,a,rfl⟩:=km.1 h;grind
theorem vO{l}(h:l.Pairwise (·<·)):(cK l).Pairwise (·<·):=by grind[cK]
theorem mw{l}{B}(h:B.Perm (cK l)):∃Q,B=cK Q/\Q.Perm l:=by
 refine⟨B.map Int.toNat,?_,?_⟩
 ·have:∀x∈B,((x.toNat:Nat):Int)=x:=λx a=>by grind[lA]
  unfold cK;rw[List.map_map];conv=>lhs;rw[<-List.map_id B]
  exact List.map_congr_left λx a=>(this x a).symm
 ·have:=h.map Int.toNat;refine this.trans ?_;unfold cK;rw[List.map_map];have:(Int.toNat∘fun(j:Nat)=>(j:Int))=id:=by funext j;simp
  simp_all
def cE(Wt:zzb)(k:Nat):List Nat:=(List.range k).filter λj=>decide (0<Wt j)
theorem Dh{Wt}{k}(h:0<Wt k):cE Wt (k+1)=cE Wt k++[k]:=by unfold cE;rw[sA,List.filter_append];simp[h]
theorem FN{Wt}{k}(h:¬0<Wt k):cE Wt (k+1)=cE Wt k:=by unfold cE;rw[sA,List.filter_append];simp[h]
theorem Dg Wt k:(cE Wt k).Pairwise (·<·):=List.pairwise_lt_range.filter _
theorem mf Wt k:(cE Wt k).length<=k:=by have:=List.length_filter_le (λj=>decide (0<Wt j)) (List.range k);rw[I3]at this;exact this
theorem mg{Wt}{k j}(h:j∈cE Wt k):j<k/\0<Wt j:=by grind[cE]
theorem FX{w}{B n g c}{b}(h:w.ownsRow B 3 1 (Sq g n c) n (b.map (Value.int .i64))):aK w g 0 b:=by
 have s:b.length=n:=by have:=h.1;simpa using this
 rcases h.2 with⟨a,_⟩|⟨q,i,d,a,r,k,p,l,m,f⟩;·simp at a
 ·simp only[ss,BZ,Addr.mk.injEq,and_true,true_and]at a;obtain⟨rfl,rfl⟩:=a;refine⟨(aj.1 k).1,λj o=>⟨?_,frozen_of_row w g _ d 3 k⟩⟩;have:=h.cells (g:=g) rfl j (Iq (b[j]?.getD 0)) (by simp[o]);have e:((aq g 0):Addr).add j=(aq g (0+j)):=by unfold Addr.add;split<;>simp_all
  rwa[e]at this
def Pl(B:Nat)(W:AT)(v:Fd)(Q:zzh):Prop:=(Q=[]/\v=.slice none 0 0)\/(Q≠[]/\∃g cap,v=Sq g Q.length cap/\B<=g/\Q.length<=cap/\cap<=maxLen/\aK W g 0 (cK Q))
theorem Hd{w}{B}{v}{Q}(h:w.ownsRow B 3 1 v (cK Q).length ((cK Q).map (Value.int .i64)))(c:Q≠[]):∃g a,v=Sq g Q.length a/\B<=g/\Q.length<=a/\a<=maxLen/\aK w g 0 (cK Q):=by have d:=h;rcases h.2 with⟨rfl,e⟩|⟨g,a,b,rfl,j,k,f,i,_⟩;all_goals grind[dw,FX]
def Pn(Mn Mx Wt:zzb)(i k:Nat):Prop:=(Mx i-Mn i)*Wt k<=(Mx k-Mn k)*Wt i
theorem DA(n f off m:Nat)(Mn Mx Wt:zzb)(w:AT)(h:fg w f off n Mn Mx Wt)(hR:∀j,0<=Mx j-Mn j/\Mx j-Mn j<=1073741824/\0<=Wt j/\Wt j<=1073741824)(hn:n<=1073741824):
 Cw 336 #[.slice (some (aq f off)) n m] w λe w'=>∃v Q,e=Rw v/\Pl w.heap.size w' v Q/\Q.Perm (cE Wt n)/\Q.Pairwise (Pn Mn Mx Wt)/\Bq w w':=by
 obtain⟨i0,hi,zi,zj,zk⟩:=info_parts OQ;have HW:=qH<|h;have HR:=qH<|hR;have zm:=h.1;clear h hR;go_enter func336,ntmps336;go_wp2;obtain⟨D,l⟩:=af (w.alloc (.cells #[.slice (some (aq f off)) n m] 287));rw[l];have zh:D.heap.size=w.heap.size+1:=by rw[<-l];simp
 have y:Bq w D:=by rw[<-l];exact(ac _ _).alloc (ad _) _
 have J:D.cell? (aq w.heap.size 0)=some (.slice (some (aq f off)) n m):=by rw[<-l,World.cell?_alloc_at _ _ _ _ rfl];rfl
 clear l;go_loopw[3,8] (λv i wr=>∃k:Nat,i=Iq k/\k<=n/\wr.ownsRow D.heap.size 3 1 v (cK (cE Wt k)).length ((cK (cE Wt k)).map (Value.int .i64))/\Bq D wr/\Hid (cE Wt k=[]->v=.slice none 0 0)) (λ_ i _=>n-(intOf i).toNat);case atStart=>exact⟨0,rfl,aP _,ga _ _ _ _,ac _ _,λ_=>rfl⟩
 case round=>
  obtain⟨k,rfl,hk,a,b,o⟩:=hrel;by_cases Z:k<n
  ·have zn:(k:Int)<(n:Int):=dg
   have c:=(HW.below y).below b;have hc:=c.2 k Z;obtain⟨a1,G⟩:=af (Mn k);obtain⟨a2,H⟩:=af (Mx k);obtain⟨a3,t⟩:=af (Wt k);rw[G,H,t]at hc;have hz:=c.1;have zl:=b.size;obtain⟨zo,zq,zr⟩:=hc;have E:=qH<|t;have zw:=mf Wt k;have ze:=dw (cE Wt k);clear c G H t;by_cases s:0<a3
   ·have F:Hid (cE Wt (k+1)=cE Wt k++[k]):=Dh (by rw[E.out];exact s);go_wp2_with(at_builtin;refine wpList_append_own _ rfl _ _ 26 rfl D.heap.size 3 i0 (Iq 0) 1 8 underlying26 hi zi zj zk rfl (by decide) _ _ _ rfl ((a.alloc _).alloc _) _ 1 1 [Iq (k:Int)] rfl rfl ?c1 ?c2 ?c3 ?c4 ?c5 ?_);case c1=>intro j u L;have:=cell_one_new (wr.alloc (.cells #[Iq a1,Iq a2,Iq a3] 400)) (Iq (k:Int)) 3 j u L;simp_all
    case c2=>intro u hu;simp at hu;subst hu;rfl
    case c3=>unfold maxLen;omega
    case c4=>omega
    case c5=>simp;omega
    intro v' w1 z hg _;have d:=λq C=>(a.lt q C).1;have W:=((b.alloc dg _).alloc (by simp;omega) _).grown hg (by simp;omega) (λq C=>rn);clear hg d a b;go_wp2;go_roundw;case rel=>refine⟨k+1,by go_num,dg,?_,W,λe=>by rw[F.out]at e;simp at e⟩;rw[zh,F.out,G9,aI,lU,ze];exact z
    case measure=>simp[intOf];omega
   ·have F:Hid (cE Wt (k+1)=cE Wt k):=FN (by rw[E.out];exact s);go_wp2;go_roundw;case rel=>refine⟨k+1,by go_num,dg,?_,b.alloc dg _,λe=>o (by rw[F.out]at e;exact e)⟩;rw[F.out];exact a.alloc _
    case measure=>simp[intOf];omega
  ·have zv:¬(k:Int)<(n:Int):=dg
   obtain rfl:k=n:=dg;have I:=y.trans (b.mono dg);have c:=(HW.below y).below b;have zl:=b.size;by_cases K:cE Wt k=[];·rw[K]at a;have hv:=o K;subst hv;clear c a;go_wp2_with fail;refine(p_ _ _).mono ?_;rintro e B ⟨rfl,rfl⟩;go_wp2;go_ret;exact⟨_,[],rfl,.inl ⟨rfl,rfl⟩,by rw[K],List.Pairwise.nil,I⟩
   ·obtain⟨g,P,rfl,zt,zu,X,d⟩:=Hd a K;have HS:Hid (Cw 352 #[Sq g (cE Wt k).length P,.func (.func 353) #[] #[Pq w.heap.size]] wr λe w'=>e=Rw (.tuple #[])/\Sorted wr w' g 0 (ug (λi=>Mx i.toNat-Mn i.toNat) (λi=>Wt i.toNat)) [] (cK (cE Wt k)) []):=by
     refine jc 353 #[Pq w.heap.size] (enters_of func353 pt rfl) (λi k=>gE ((Mx i.toNat-Mn i.toNat)*Wt k.toNat) ((Mx k.toNat-Mn k.toNat)*Wt i.toNat)) (cK (cE Wt k)) (ug (λi=>Mx i.toNat-Mn i.toNat) (λi=>Wt i.toNat)) (Hb _ _ _ ?_) wr g 0 P ?_ (cK (cE Wt k)) wr (cE Wt k).length (cL _ _) d (λx O=>O) (vO (Dg Wt k)) (dw _) (by grind[mf]);·intro x O;obtain⟨j,rfl,L⟩:=lA O;have:=(mg L).2;grind
     ·refine CF k w.heap.size f off m g Mn Mx Wt wr ?_ c.2 (λj _=>HR j) _ ?_ dg dg dg dg c.1;·exact(b.cell (p:=(aq w.heap.size 0)) rn).trans J
      ·intro x O;obtain⟨j,rfl,L⟩:=lA O;exact⟨j,rfl,(mg L).1⟩
    have r:∀B,Sorted wr B g 0 (ug (λi=>Mx i.toNat-Mn i.toNat) (λi=>Wt i.toNat)) [] (cK (cE Wt k)) []->∃Q,Q.length=(cE Wt k).length/\Pl w.heap.size B (Sq g (cE Wt k).length P) Q/\Q.Perm (cE Wt k)/\Q.Pairwise (Pn Mn Mx Wt)/\Bq w B:=by
     rintro B ⟨⟨M,hp,A,zg⟩,Y⟩;obtain⟨Q,rfl,C⟩:=mw hp;have N:=C.length_eq;refine⟨Q,N,.inr ⟨λe=>K rn,g,P,by rw[N],dg,dg,X,by simpa using zg⟩,C,?_,?_⟩;·unfold cK at A;rw[I4]at A;refine A.imp fun{i k} h=>?_;grind[ug,Pn]
     ·exact I.grown Y dg (λq C=>rn)
    have HF:=qH<|r;clear r c a d;go_wp2_with fail;refine HS.mono ?_;rintro e B ⟨rfl,hS⟩;obtain⟨Q,R,S,T,U,V⟩:=HF B hS;clear hS R;go_wp2;go_ret;exact⟨_,Q,rfl,S,T,U,V⟩
theorem oa{P}{l}{o}{a}{w}{K}{Q}{E}(O:o.guard=none)s x t(y:o.op=Op.call {callee:=Callee.builtin Builtin.append,args:=#[s,x],argTypes:=#[t,t]})d e i z size bytes(D:P.underlying t=some (.slice e))(F:P.info? e=some i)(G:i.zero=some z)(H:i.size=size)(I:i.bytes=bytes)(J:z.cells.size=size)(L:0<size)v n f(S:a.eval s=v)(h:w.ownsRow d e size v n f)q m c b(U:a.eval x=.slice (some q) m c)(R:b.length=m*size)(N:∀j u,b[j]?=some u->w.cell? (q.add j)=some u)(r:∀u∈b,u.oneCell'=true)(A:n+m<=maxLen)(B:(n+m)*bytes<=140737488355328)(C:d<=w.heap.size)(M:∀p w',w'.ownsRow d e size p (n+m) (f++b)->w.grownBy w' v.ownBlock->K (a.put o.dst p) w'):
 if Region.wanted o (yielded l a.tmps)=true then Oper.wp P o a w K Q else E:=by
 have T:Region.wanted o (yielded l a.tmps)=true:=by simp[Region.wanted,O]
 rw[if_pos T];obtain⟨p,w',k,V,W,_⟩:=run_append_own (P:=P) w d t o.type e i z size bytes D F G H I J L v n f h q m c b R N r A B C;unfold Oper.wp;simp[execOp,y,resolve,invoke,builtin,S,U,k,Result.andThen];exact M p w' V W
