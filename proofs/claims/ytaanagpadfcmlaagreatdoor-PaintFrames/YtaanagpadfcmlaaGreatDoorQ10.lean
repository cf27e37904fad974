import Derived.Test.YtaanagpadfcmlaaGreatDoorQ08
import Derived.Shelf.Abstract
import Derived.Shelf.SlSortCmp.QuietGrown
set_option linter.all false
set_option maxRecDepth 100000
set_option maxHeartbeats 16000000
namespace Go.Proofs.YtaanagpadfcmlaaGreatDoor
open Go.RowKit Go.Sort Go.Proofs.Tryz
def AJ(g:Nat)(lb:Array Value)(cf:Int->Int->Int)(D:List Int)(w0:World)(blk:Nat):Prop:=
 ∀W,w0.grownBy W (some blk)->∀x∈D,∀y∈D,Cw g (#[Iq x,Iq y]++lb) W λe W'=>e=Rw (Iq (cf x y))/\∃q os,W'=grow (W.drewN q) os
theorem jk W q os:Bt W (grow (W.drewN q) os):=
 ⟨rfl,rfl,rfl,by simp_all,λk a=>by show(W.heap++os)[k]?=_;grind⟩
theorem AJ.ok{g}{c}{b}{D}{d}{a}(h:AJ g c b D d a):vW g c b D d a:=
 λW f x j y hy=>(h W f x j y hy).mono λe k ⟨i,q,os,l⟩=>⟨i,by grind[jk]⟩
theorem LR(M:List Int):M=[]\/∃a y,M=a++[y]:=by rcases List.eq_nil_or_concat M with h|⟨a,y,h⟩;all_goals grind
theorem Iz(A a b:List Int)k(c:k<A.length)(h:(a++b).Perm (A.take k)):(a++[A[k]?.getD 0]++b).Perm (A.take (k+1)):=by grind[jc]
theorem Iy{R:Int->Int->Prop}a b x(h:(a++b).Pairwise R)(h1:∀y∈a,R y x)(c:∀y∈b,R x y):(a++[x]++b).Pairwise R:=rd
def ji(w w':World)(blk off:Nat)(R:Int->Int->Prop)(P A S:List Int):Prop:=
 (∃M:List Int,M.Perm A/\M.Pairwise R/\aV w' blk off (P++M++S))/\w.grownBy w' (some blk)
theorem LH(g:Nat)(lb:Array Value)(eg:∀args w,(callFunc g args).run prog w=.ok (.enter g args) w)(cf:Int->Int->Int)(D:List Int)(R:Int->Int->Prop)(hO:Ord cf D R)(w0:World)(c off zA:Nat)(zn:AJ g lb cf D w0 c)(P A S:List Int)(w:World)(n a b:Nat)(zF:w0.grownBy w (some c))(h:aV w c off (P++A++S))(zB:∀x∈A,x∈D)(zm:A.Pairwise (·<·))(hn:(P++A++S).length=n)(zH:n<=1099511627776)(ha:P.length=a)(hb:P.length+A.length=b):
 Cw 275 #[.slice (some (aj c off)) n zA,Iq a,Iq b,.func (.func g) #[] lb] w λe w'=>e=Rw (.tuple #[])/\ji w w' c off R P A S:=by
 have HR:=qH<|h;have HO:=qH<|hO;have zz:=qH<|zF;have zx:=qH<|zn;have zc:=qH<|zB;have zw:=qH<|zm;have zP:prog.follows .mixedOrders=true:=ns
 have zM:b<=n:=by rw[<-hb,<-hn];simp only[aU];omega
 have zL:b<=a+A.length:=dg;have HN:Hid (P.length+A.length+S.length=n):=by show _=_;rw[<-hn];simp only[aU]
 have HA:=qH<|ha;go_enter func275,ntmps275;go_wp2;go_loopw[8] (λi wr=>∃(u k:Nat) (M:List Int),i=Iq u/\a+k<=u/\u<=a+k/\1<=k/\(k<=A.length\/k=1)/\Hid (M.Perm (A.take k))/\Hid (M.Pairwise R)/\Hid (aV wr c off (P++M++A.drop k++S))/\Hid (w.grownBy wr (some c))) (λi _=>b+2-(intOf i).toNat);case atStart=>
  refine⟨a+1,1,A.take 1,by go_num,dg,dg,dg,Or.inr rfl,Kh _,?_,?_,dx _ _⟩;·show List.Pairwise R _;match A with
   |[]=>simp_all
   |x::l=>grind
  ·show aV _ _ _ _;have:=HR.out;rw[cM P,fy];omega
 case round=>
  obtain⟨u,k,M,rfl,zR,zS,zN,zO,HM,U,J,zo⟩:=hrel;by_cases O:k<A.length
  ·have zq:(u:Int)<(b:Int):=dg
   obtain⟨x,hx⟩:=ad (A[k]?.getD 0);have HX:=qH<|hx;have L:Hid (x∈D):=by show x∈D;rw[<-hx];exact zc _ (eS O)
   have K:Hid (M.length=k):=by show _=_;rw[HM.length_eq,b_];omega
   have E:Hid (∀y∈M,y∈D/\y<x):=by intro y hy;obtain⟨t,ht,zC,e⟩:=iB (HM.mem_iff.1 hy);rw[<-e,<-hx];exact⟨zc _ (eS zC),jr zw ht O⟩
   have za:Hid (aV wr c off (P++M++[x]++[]++(A.drop (k+1)++S))):=by have:=J.out;rw[(jc A k O).2,hx]at this;show aV _ _ _ _;simpa[cM]using this
   go_wp2;go_loopw[9] (λj wr=>∃(v:Nat) (H r:List Int),j=Iq v/\a+H.length<=v/\v<=a+H.length/\H.length<=k/\Hid (M=H++r)/\Hid (∀y∈r,R x y)/\Hid (aV wr c off (P++H++[x]++r++(A.drop (k+1)++S)))/\Hid (w.grownBy wr (some c))) (λj _=>(intOf j).toNat);case atStart=>exact⟨u,M,[],rfl,by rw[K.out];omega,by rw[K.out];omega,by rw[K.out];omega,rd,(λy hy=>by cases hy),za,zo⟩
   case round=>
    obtain⟨v,H,r,rfl,zt,zu,zE,B,H2,C,hgr2⟩:=hrel;have o:Hid ((∀y∈H,R y x)->∃f,List.Perm f (A.take (k+1))/\f.Pairwise R/\(P++H++[x]++r++(A.drop (k+1)++S))=P++f++A.drop (k+1)++S):=by
     intro h1;refine⟨H++[x]++r,?_,?_,by simp[cM]⟩;·have:=HM.out;rw[B.out]at this;have:=Iz A H r k O this;rw[HX.out]at this;exact this
     ·have:=U.out;rw[B.out]at this;exact Iy H r x this h1 H2
    rcases LR H with rfl|⟨f,y,rfl⟩
    ·have zD:v=a:=by simp at zt zu;omega
     subst zD;obtain⟨f,d1,d2,d3⟩:=o (λy hy=>by cases hy);have d:Hid (aV wr c off (P++f++A.drop (k+1)++S)):=by have:=C.out;rw[d3]at this;exact this
     have D1:=qH<|d1;have D2:=qH<|d2;have m:=qH<|hgr2.out;go_wp2_with fail;go_quiet(fail);go_wp2;go_roundw;case rel=>exact⟨u+1,k+1,f,by go_num,dg,dg,dg,Or.inl dg,D1,D2,d.drewN _,grown_trans m (xo _ _ _)⟩
     case measure=>simp[intOf];omega
    ·have zl:(f++[y]).length=f.length+1:=rn
     rw[zl]at zt zu zE;obtain⟨q,hq⟩:=ad (a+f.length);have Q:q+1=v:=dg;have zT:(v:Int)-1=(q:Int):=dg;have zK:(a:Int)<(v:Int):=dg;have zU:(v:Int)<(n:Int):=dg;have zQ:(q:Int)<(n:Int):=dg;have zV:IntKind.i64.wrap (q:Int)=(q:Int):=IntWalk.i64_in _ ⟨dg,dg⟩;have N:(P++f).length=q:=by have:=HA.out;rw[aU];omega
     have I:Hid (y∈M):=by show y∈M;rw[B.out];simp
     have Y:((P++f)++[y]++[x]++(r++(A.drop (k+1)++S)))[q]?.getD 0=y:=by rw[<-N];exact(nR _ _ _ _).1
     have Z:((P++f)++[y]++[x]++(r++(A.drop (k+1)++S)))[v]?.getD 0=x:=by rw[<-Q,<-N];exact(nR _ _ _ _).2
     have zh:((P++f)++[y]++[x]++(r++(A.drop (k+1)++S))).length=n:=by have h1:=K.out;rw[B.out]at h1;have:=HN.out;simp only[aU,cL,dP,fP]at*;omega
     have F:aV wr c off ((P++f)++[y]++[x]++(r++(A.drop (k+1)++S))):=by have:=C.out;simpa[cM]using this
     have c0:=cell_grown F.1 (by rw[(F.2 q dg).1,Y]);have c1:=cell_grown F.1 (by rw[(F.2 v dg).1,Z]);have X:=λn' zG=>
      zx.out _ (grown_trans (grown_trans zz hgr2) (grown_below (jk wr n' zG))) x L y (E y I).1;obtain⟨z,hz⟩:=ad (cf x y);have HZ:=qH<|hz;have zk:=qH<|F;have V:Hid (q+1=v/\(P++f).length=q):=⟨Q,N⟩;have HQ:=qH<|hq;have ze:=qH<|Y;have zg:=qH<|Z;have s:=qH<|zh;rw[hz]at X;clear hq hz F N Q Y Z zh zl C;go_wp2_with fail;go_quiet_grown(first|(go_at_fn g;refine Calls.grown_of (X _ _)));have p:Hid (aV (grow (wr.drewN nq) osq) c off ((P++f)++[y]++[x]++(r++(A.drop (k+1)++S)))):=zk.below (jk _ _ _);have m:Hid (w.grownBy (grow (wr.drewN nq) osq) (some c)):=grown_trans hgr2 (grown_below (jk _ _ _));clear zk hgr2 c0 c1 X;generalize grow (wr.drewN nq) osq=wc at p m⊢;clear nq osq;by_cases T:z<0
     ·have hd:decide (z<0)=true:=by simp[T]
      rw[hd];have G:=HO.lt x L y (E y I).1 (by rw[HZ.out];exact T);have zv:Hid (∀y'∈y::r,R x y'):=by
       intro y' zb;rcases gE.1 zb with rfl|W;·exact G
       ·exact H2 y' W
      have zi:Hid (M=f++(y::r)):=by show _=_;rw[B.out];simp
      have zI:q<n:=dg;have zJ:v<n:=dg;have c0:wc.cell? (aj c (off+q))=some (Iq y):=by rw[(p.2 q (by rw[s.out];omega)).1,ze.out]
      have f0:=(p.2 q (by rw[s.out];omega)).2;have c1:wc.cell? (aj c (off+v))=some (Iq x):=by rw[(p.2 v (by rw[s.out];omega)).1,zg.out]
      have f1:=(p.2 v (by rw[s.out];omega)).2;have zj:Hid (aV ((wc.setCell (aj c (off+v)) (Iq y)).setCell (aj c (off+q)) (Iq x)) c off (P++f++[x]++(y::r)++(A.drop (k+1)++S))):=by have:=kZ p v q (by rw[s.out];omega) (by rw[s.out];omega);rw[ze.out,zg.out,yU _ _ _ (by rw[s.out];omega) (by rw[s.out];omega)]at this;have zr:=rY (P++f) y x (r++(A.drop (k+1)++S));rw[V.2,V.1]at zr;rw[zr]at this;show aV _ _ _ _;simpa[cM]using this
      have HG:Hid (w.grownBy ((wc.setCell (aj c (off+v)) (Iq y)).setCell (aj c (off+q)) (Iq x)) (some c)):=
       grown_trans m (grown_trans (eJ _ _ _ _) (eJ _ _ _ _));have Q:q<v:=by have:=V.1;omega
      clear p m G o;go_wp2;go_big_region;go_wp2;go_roundw;case rel=>exact⟨q,f,y::r,rfl,by have:=HQ.out;omega,by have:=HQ.out;omega,dg,zi,zv,zj,fe HG⟩
      case measure=>simp[intOf];omega
     ·have hd:decide (z<0)=false:=by simp[T]
      rw[hd];have G:=HO.ge y (E y I).1 x L (E y I).2 (by rw[HZ.out];exact T);obtain⟨M3,d1,d2,d3⟩:=o (by
       intro y' zb;rcases gF.1 zb with W|W;·have hp:=U.out;rw[B.out]at hp;have h4:=(je.1 (je.1 hp).1).2.2 y' W y rn;exact HO.trans y' (E y' (by rw[B.out];simp[W])).1 y (E y I).1 x L h4 G
       ·rw[lS]at W;subst W;exact G);have d:Hid (aV wc c off (P++M3++A.drop (k+1)++S)):=by have:=p.out;show aV _ _ _ _;rw[<-d3];simpa[cM]using this
      have D1:=qH<|d1;have D2:=qH<|d2;clear d1 d2 d3 p o G;go_wp2;go_roundw;case rel=>exact⟨u+1,k+1,M3,by go_num,dg,dg,dg,Or.inl dg,D1,D2,d,m⟩
      case measure=>simp[intOf];omega
  ·have zq:¬(u:Int)<(b:Int):=dg
   have d:Hid (aV wr c off (P++M++S)):=by have:=J.out;rw[ut dg]at this;show aV _ _ _ _;simpa[cM]using this
   have zy:Hid (M.Perm A):=by have:=HM.out;rw[eP dg]at this;exact this
   clear J HM;go_wp2;go_end0;exact⟨rfl,⟨M,zy,U,d⟩,zo⟩
inductive fC(R:Int->Int->Prop)(s:Nat):List Int->List Int->Prop
 |nil:fC R s [] []
 |cons (T M L d:List Int):M.Perm T->M.Pairwise R->T.length<=s->(T.length=s\/L=[])->fC R s L d->fC R s (T++L) (M++d)
def uD(R:Int->Int->Prop)(s:Nat)(L1 Y:List Int):Prop:=∀L' d',fC R s L' d'->fC R s (L1++L') (Y++d')
theorem fC.len{R}{s}{L d}(h:fC R s L d):d.length=L.length:=by
 induction h with
 |nil=>rfl
 |cons T M L d hp _ _ _ _ a=>rw[aU,aU,hp.length_eq,a]
theorem fC.mem{R}{s}{L d}(h:fC R s L d):d.Perm L:=by
 induction h with
 |nil=>grind
 |cons T M L d hp _ _ _ _ a=>grind
theorem fC.split{R}{s}{L d}(h:fC R s L d)(e:s<d.length):∃T M a d',L=T++a/\d=M++d'/\M.Perm T/\M.Pairwise R/\T.length=s/\fC R s a d':=by
 cases h with
 |nil=>simp at e
 |cons T M L d hp g f b c=>
  rcases b with b|rfl;·grind
  ·have:=c.len;have:=hp.length_eq;grind
theorem fC.one{R}{s}{L d}(h:fC R s L d)(e:0<s)(c:d.length<=s):d.Perm L/\d.Pairwise R:=by
 cases h with
 |nil=>simp_all
 |cons T M L d hp i g a b=>
  have h1:=b.len;have f:=hp.length_eq;have:d=[]:=by
   rcases a with a|rfl;·simp only[aU]at c;exact kO dg
   ·grind
  grind
theorem fC.single{R}{s}{L d}(hp:d.Perm L)(b:d.Pairwise R)(a:L.length<=s):fC R s L d:=by have:=fC.cons (R:=R) (s:=s) L d [] [] hp b a (Or.inr rfl) .nil;grind
theorem uD.nil{R}{s}:uD R s [] []:=λ_ _ h=>h
theorem uD.snoc{R}{s}{a Y T M}(h:uD R s a Y)(hp:M.Perm T)(e:M.Pairwise R)(d:T.length=s):uD R s (a++T) (Y++M):=λb d' c=>by rw[cM,cM];exact h _ _ (fC.cons T M b d' hp e dg (Or.inl d) c)
theorem Cx(g:Nat)(lb:Array Value)(eg:∀args w,(callFunc g args).run prog w=.ok (.enter g args) w)(cf:Int->Int->Int)(D:List Int)(R:Int->Int->Prop)(hO:Ord cf D R)(w0:World)(c off u:Nat)(zc:AJ g lb cf D w0 c)(L:List Int)(w:World)(n:Nat)(zC:w0.grownBy w (some c))(h:aV w c off L)(hD:∀x∈L,x∈D)(zo:L.Pairwise (·<·))(hn:L.length=n)(zg:n<=1099511627776):
 Cw 264 #[.slice (some (aj c off)) n u,Iq n,.func (.func g) #[] lb] w λe w'=>e=Rw (.tuple #[])/\ji w w' c off R [] L []:=by
 have HR:=qH<|h;have zn:=qH<|zC;have HD:=qH<|hD;have Z:=qH<|zo;have HN:=qH<|hn;have CI:=qH<|
  λP A S W a b h1 h2 h3 h4 h5 h6 h7=>LH g lb eg cf D R hO w0 c off u zc P A S W n a b (grown_trans zn h1) h2 h3 h4 h5 zg h6 h7;have CS:=qH<|
  λP A B S W a m b h1 h2 h3 h4 h5 h6 h7 h8 h9 zu zv zw zx=>DU g lb eg cf D R hO w0 c off u zc.ok (A.length+B.length) P A B S W n a m b (ae _) (grown_trans zn h1) h2 h3 h4 h5 h6 h7 h8 h9 zu zg zv zw zx;go_enter func264,ntmps264;go_wp2;go_loopw[7,8] (λi j wr=>∃(a b:Nat) (O T Y:List Int),i=Iq a/\j=Iq b/\b<=a+20/\a+20<=b/\a<=n/\Hid (a+T.length=n)/\Hid (Y.length=a)/\Hid (L=O++T)/\Hid (uD R 20 O Y)/\Hid (aV wr c off (Y++T))/\Hid (w.grownBy wr (some c))) (λi _ _=>n-(intOf i).toNat);case atStart=>exact⟨0,20,[],L,[],by go_num,by go_num,dg,dg,dg,rd,by show _=_;rfl,by show _=_;rfl,uD.nil,HR,dx _ _⟩
 case round=>
  obtain⟨a,b,O,T,Y,rfl,rfl,zz,zA,zy,r,E,z,p,zh,zb⟩:=hrel;by_cases zl:b<=n
  ·have Q:(b:Int)<=(n:Int):=dg
   have C:Hid (Cw 275 #[.slice (some (aj c off)) n u,Iq a,Iq b,.func (.func g) #[] lb] wr λe w'=>e=Rw (.tuple #[])/\ji wr w' c off R Y (T.take 20) (T.drop 20)):=by
    have:=r.out;have:=E.out;refine CI Y (T.take 20) (T.drop 20) wr a b zb ?_ ?_ ?_ ?_ E ?_;·rw[cM,fy];exact zh
    ·intro x G;exact HD x (by rw[z.out];grind)
    ·have h1:=Z.out;rw[z.out]at h1;grind
    ·grind
    ·grind
   go_wp2_with fail;refine C.mono ?_;rintro e w2 ⟨rfl,⟨M,K,V,X⟩,g2⟩;have zj:Hid (b+(T.drop 20).length=n):=by show _=_;have:=r.out;rw[cL];omega
   have zt:(T.take 20).length=20:=by have:=r.out;rw[b_];omega
   have zk:Hid ((Y++M).length=b):=by show _=_;have:=E.out;rw[aU,K.length_eq];omega
   have zi:Hid (L=(O++T.take 20)++T.drop 20):=by show _=_;rw[cM,fy];exact z
   have N:=qH<|p.snoc K V zt;have f:=qH<|X;have k:=qH<|grown_trans zb g2;go_wp2;go_roundw;case rel=>exact⟨b,b+20,O++T.take 20,T.drop 20,Y++M,rfl,by go_num,dg,dg,zl,zj,zk,zi,N,f,k⟩
   case measure=>simp[intOf];omega
  ·have Q:¬(b:Int)<=(n:Int):=dg
   have C:Hid (Cw 275 #[.slice (some (aj c off)) n u,Iq a,Iq n,.func (.func g) #[] lb] wr λe w'=>e=Rw (.tuple #[])/\ji wr w' c off R Y T []):=by
    have:=r.out;have:=E.out;refine CI Y T [] wr a n zb (by simpa using zh.out) ?_ ?_ ?_ E dg;·intro x G;exact HD x (by rw[z.out];grind)
    ·have h1:=Z.out;rw[z.out]at h1;grind
    ·grind
   go_wp2_with fail;refine C.mono ?_;rintro e w2 ⟨rfl,⟨M,K,V,X⟩,g2⟩;have zE:Hid (fC R 20 L (Y++M)):=by show fC R 20 L (Y++M);rw[z.out];exact p T M (fC.single K V (by have:=r.out;omega))
   have f:Hid (aV w2 c off (Y++M)):=by have:=X;show aV _ _ _ _;simpa using this
   have k:=qH<|grown_trans zb g2;go_wp2;go_loopw[6] (λi wr=>∃(s:Nat) (d:List Int),i=Iq s/\20<=s/\s<=2*n+20/\Hid (fC R s L d)/\Hid (aV wr c off d)/\Hid (w.grownBy wr (some c))) (λi _=>n-(intOf i).toNat);case atStart=>grind
   case round=>
    obtain⟨s,d,rfl,zD,zH,v,U,ze⟩:=hrel;by_cases zG:s<n
    ·have zr:(s:Int)<(n:Int):=dg
     obtain⟨t,ht⟩:∃t:Nat,2*s=t:=⟨_,rfl⟩;have zI:(2:Int)*(s:Int)=(t:Int):=dg;have zJ:(s:Int)*(2:Int)=(t:Int):=dg;go_wp2;go_loopw[7,8] (λi j wr=>∃(a b:Nat) (O L' Y d':List Int),i=Iq a/\j=Iq b/\b<=a+t/\a+t<=b/\a<=n/\Hid (a+d'.length=n)/\Hid (Y.length=a)/\Hid (L=O++L')/\Hid (uD R t O Y)/\Hid (fC R s L' d')/\Hid (aV wr c off (Y++d'))/\Hid (w.grownBy wr (some c))) (λi _ _=>n-(intOf i).toNat);case atStart=>exact⟨0,t,[],L,[],d,by go_num,rfl,dg,dg,dg,by show _=_;have:=HN.out;have:=v.len;omega,by show _=_;rfl,by show _=_;rfl,uD.nil,v,U,ze⟩
     case round=>
      obtain⟨a,b,O,L',Y,d',rfl,rfl,zz,zA,zy,r,E,z,p,q,o,l⟩:=hrel;by_cases zl:b<=n
      ·have Q:(b:Int)<=(n:Int):=dg
       obtain⟨T1,M1,L2,d2,e1,e2,H,w1,l1,r1⟩:=q.split (by have:=r.out;omega);have zm:s<=d2.length:=by have h1:=r.out;rw[e2,aU,H.length_eq]at h1;omega
       obtain⟨T2,M2,L3,d3,f1,f2,I,J,l2,X⟩:∃T M L' d',L2=T++L'/\d2=M++d'/\M.Perm T/\M.Pairwise R/\T.length=s/\fC R s L' d':=by
        by_cases hq:s<d2.length;·exact r1.split hq
        ·have ho:=r1.one dg dg;exact⟨L2,d2,[],[],rn,rn,ho.1,ho.2,by have:=r1.len;omega,.nil⟩
       subst e1;subst e2;subst f1;subst f2;obtain⟨m,hm⟩:∃m:Nat,a+s=m:=⟨_,rfl⟩;have zB:(a:Int)+(s:Int)=(m:Int):=dg;have hL:=z.out;have F:=Z.out;rw[hL]at F;have za:=(je.1 F).2.1;have C:Hid (Cw 276 #[.slice (some (aj c off)) n u,Iq a,Iq m,Iq b,.func (.func g) #[] lb] wr λe w'=>e=Rw (.tuple #[])/\qi wr w' c off R Y M1 M2 d3):=by
        have h1:=r.out;have h2:=E.out;have q1:=H.length_eq;have q2:=I.length_eq;simp only[aU]at h1;refine CS Y M1 M2 d3 wr a m b l (by simpa[cM]using o.out) ?_ ?_ w1 J ?_ dg dg (by simp only[aU];omega) E dg dg;·intro x G;exact HD x (by rw[hL];simp[H.mem_iff.1 G])
        ·intro x G;exact HD x (by rw[hL];simp[I.mem_iff.1 G])
        ·intro x G y hy;exact(je.1 za).2.2 x (H.mem_iff.1 G) y (gF.2 (Or.inl (I.mem_iff.1 hy)))
       have KP:Hid (M1.Perm T1/\M2.Perm T2/\T1.length=s/\T2.length=s):=⟨H,I,l1,l2⟩;have KR:=qH<|X;go_wp2_with fail;refine C.mono ?_;rintro e w2 ⟨rfl,⟨M,K,V,X⟩,g2⟩;have zj:Hid (b+d3.length=n):=by show _=_;have h1:=r.out;have q1:=KP.1.length_eq;have q2:=KP.2.1.length_eq;have q3:=KP.2.2;simp only[aU]at h1;omega
       have zk:Hid ((Y++M).length=b):=by show _=_;have h1:=E.out;have q1:=KP.1.length_eq;have q2:=KP.2.1.length_eq;have q3:=KP.2.2;rw[aU,K.length_eq,aU];omega
       have zi:Hid (L=(O++(T1++T2))++L3):=by show _=_;rw[z.out];simp[cM]
       have N:=qH<|p.snoc (K.trans (KP.1.append KP.2.1)) V (by have:=KP.2.2;rw[aU];omega);have f:=qH<|X;have k:=qH<|grown_trans l g2;go_wp2;go_roundw;case rel=>exact⟨b,b+t,O++(T1++T2),L3,Y++M,d3,rfl,by go_num,dg,dg,zl,zj,zk,zi,N,KR,f,k⟩
       case measure=>simp[intOf];omega
      ·have Q:¬(b:Int)<=(n:Int):=dg
       obtain⟨m,hm⟩:∃m:Nat,a+s=m:=⟨_,rfl⟩;have zB:(a:Int)+(s:Int)=(m:Int):=dg;by_cases zF:m<n
       ·have zq:(m:Int)<(n:Int):=dg
        obtain⟨T1,M1,L2,d2,e1,e2,H,w1,l1,r1⟩:=q.split (by have:=r.out;omega);subst e1;subst e2;have zm:d2.length<=s:=by have h1:=r.out;rw[aU,H.length_eq]at h1;omega
        obtain⟨I,J⟩:=r1.one dg zm;have hL:=z.out;have F:=Z.out;rw[hL]at F;have za:=(je.1 F).2.1;have C:Hid (Cw 276 #[.slice (some (aj c off)) n u,Iq a,Iq m,Iq n,.func (.func g) #[] lb] wr λe w'=>e=Rw (.tuple #[])/\qi wr w' c off R Y M1 d2 []):=by
         have h1:=r.out;have h2:=E.out;have q1:=H.length_eq;simp only[aU]at h1;refine CS Y M1 d2 [] wr a m n l (by simpa[cM]using o.out) ?_ ?_ w1 J ?_ dg dg (by simp only[aU,fP];omega) E dg dg;·intro x G;exact HD x (by rw[hL];simp[H.mem_iff.1 G])
         ·intro x G;exact HD x (by rw[hL];simp[I.mem_iff.1 G])
         ·intro x G y hy;exact(je.1 za).2.2 x (H.mem_iff.1 G) y (I.mem_iff.1 hy)
        have KE:Hid (∀M:List Int,M.Perm (M1++d2)->M.Pairwise R->fC R t L (Y++M)):=by intro M K V;have h1:=r.out;rw[hL];refine p _ _ (fC.single (K.trans (H.append I)) V ?_);have q1:=H.length_eq;have q2:=I.length_eq;simp only[aU]at*;omega
        clear H I l1 r1 w1 J hm hL F za zm;go_wp2_with fail;refine C.mono ?_;rintro e w2 ⟨rfl,⟨M,K,V,X⟩,g2⟩;have KR:=qH<|KE M K V;have f:Hid (aV w2 c off (Y++M)):=by have:=X;show aV _ _ _ _;simpa using this
        have k:=qH<|grown_trans l g2;clear K V X g2 C o l r E z p q KE;go_wp2;go_roundw;case rel=>exact⟨t,Y++M,rfl,dg,dg,KR,f,k⟩
        case measure=>simp[intOf];omega
       ·have zq:¬(m:Int)<(n:Int):=dg
        have KR:Hid (fC R t L (Y++d')):=by show fC R t L (Y++d');have h1:=r.out;obtain⟨I,J⟩:=q.one dg dg;rw[z.out];exact p _ _ (fC.single I J (by have:=I.length_eq;omega))
        clear r E z p q hm;go_wp2;go_roundw;case rel=>exact⟨t,Y++d',rfl,dg,dg,KR,o,l⟩
        case measure=>simp[intOf];omega
    ·have zr:¬(s:Int)<(n:Int):=dg
     have HF:=qH<|v.one dg (by have:=v.len;have:=HN.out;omega);go_wp2;go_end0;exact⟨rfl,⟨d,HF.1,HF.2,by simpa using U.out⟩,ze⟩
theorem kG(g:Nat)(k:Array Value)(s:∀args w,(callFunc g args).run prog w=.ok (.enter g args) w)(j:Int->Int->Int)(D:List Int)(R:Int->Int->Prop)(o:Ord j D R)(l:World)(a off d:Nat)(c:AJ g k j D l a)(L:List Int)(w:World)(n:Nat)(i:l.grownBy w (some a))(h:aV w a off L)(m:∀x∈L,x∈D)(b:L.Pairwise (·<·))(p:L.length=n)(f:n<=1099511627776):
 Cw 250 #[.slice (some (aj a off)) n d,.func (.func g) #[] k] w λe w'=>e=Rw (.tuple #[])/\ji w w' a off R [] L []:=by
 have C:=qH<|
  Cx g k s j D R o l a off d c L w n i h m b p f;clear h o i c m b p;go_enter func250,ntmps250;go_wp2_with fail;refine C.mono ?_;rintro e t ⟨rfl,q⟩;have r:=qH<|q;clear q C;go_wp2;go_end0;exact⟨rfl,r⟩
theorem LI(a:Value)(w:World):
 Cw 275 #[.slice none 0 0,Iq 0,Iq 0,a] w λe w'=>e=Rw (.tuple #[])/\w'=w:=by
 go_enter func275,ntmps275;go_wp2;go_loopw[8] (λi wr=>i=Iq 1/\wr=w) (λi _=>0);case atStart=>grind
 case round=>obtain⟨rfl,rfl⟩:=hrel;go_wp2;go_end0;simp_all
theorem Cy(a:Value)(w:World):
 Cw 264 #[.slice none 0 0,Iq 0,a] w λe w'=>e=Rw (.tuple #[])/\w'=w:=by
 go_enter func264,ntmps264;go_wp2;go_loopw[7,8] (λi j wr=>i=Iq 0/\j=Iq 20/\wr=w) (λi _ _=>0);case atStart=>grind
 case round=>
  obtain⟨rfl,rfl,rfl⟩:=hrel;go_wp2_with fail;refine(LI a wr).mono ?_;rintro e b ⟨rfl,rfl⟩;go_wp2;go_loopw[6] (λi wr=>i=Iq 20/\wr=b) (λi _=>0);case atStart=>grind
  case round=>obtain⟨rfl,rfl⟩:=hrel;go_wp2;go_end0;simp_all
theorem rU(a:Value)(w:World):
 Cw 250 #[.slice none 0 0,a] w λe w'=>e=Rw (.tuple #[])/\w'=w:=by go_enter func250,ntmps250;go_wp2_with fail;refine(Cy a w).mono ?_;rintro e b ⟨rfl,rfl⟩;go_wp2;go_end0;grind
def iR(x y:Int):Int:=if x<y then-1 else if y<x then 1 else 0
theorem qV(x:Int)(w:World):
 Cw 265 #[Iq x] w λe w'=>e=Rw (.bool false)/\w'=w:=by go_enter func265,ntmps265;go_wp2;go_ret;simp_all
theorem oM(x y:Int)(w:World):
 Cw 252 #[Iq x,Iq y] w λe w'=>e=Rw (Iq (iR x y))/\w'=w:=by
 obtain⟨z,c⟩:=ad (iR x y);have b:=qH<|c;rw[c];clear c;by_cases h1:x<y
 ·have a:z=-1:=by have:=b.out;unfold iR at this;rw[if_pos h1]at this;exact this.symm
  subst a;go_enter func252,ntmps252;go_wp2_with(refine(qV _ _).mono ?_;rintro e f ⟨rfl,rfl⟩);try go_wp2
  go_ret;simp_all
 ·by_cases d:y<x
  ·have a:z=1:=by have:=b.out;unfold iR at this;rw[if_neg h1,if_pos d]at this;exact this.symm
   subst a;go_enter func252,ntmps252;go_wp2_with(refine(qV _ _).mono ?_;rintro e f ⟨rfl,rfl⟩);go_ret;simp_all
  ·have a:z=0:=by have:=b.out;unfold iR at this;rw[if_neg h1,if_neg d]at this;exact this.symm
   subst a;go_enter func252,ntmps252;go_wp2_with(refine(qV _ _).mono ?_;rintro e f ⟨rfl,rfl⟩);go_ret;simp_all
def gb(d:List Int):Nat->Int->List Int->List Int
 |0,_,Y=>Y
 |c+1,m,Y=>gb d c (m-min m (d[c]?.getD 0)) ((d[c]?.getD 0-min m (d[c]?.getD 0))::Y)
theorem Fm{W}{a off}{d}(h:aV W a off d)i y(hi:i<d.length):aV (W.setCell (aj a (off+i)) (Iq y)) a off (d.set i y):=by
 refine⟨by simpa using h.1,λk b=>?_⟩;rw[Ki]at b;simp only[fI];refine⟨?_,(h.2 k b).2⟩;have c:=(h.2 k b).1;by_cases h1:k=i;·subst h1;rw[lP _ _ _ rd];simp[b]
 ·rw[c_ _ _ _ _ (λe=>h1 rd),c,sE (λe=>h1 e.symm)]
theorem MD(X:List Int)x y Y:(X++[x]++Y).set X.length y=X++(y::Y):=rd
theorem vd(d:List Int)(a off D:Nat)(b:Int)(w:World)(n:Nat)(h:aV w a off d)(M:d.length=n)(L:n<=1099511627776)(hd:∀x∈d,0<=x/\x<=1099511627776)(F:0<=b/\b<=1099511627776):
 Cw 213 #[.slice (some (aj a off)) n D,Iq b] w λe w'=>e=Rw (.tuple #[])/\aV w' a off (gb d n b [])/\w.grownBy w' (some a):=by
 have Q:=qH<|h;have J:=qH<|M;have P:=qH<|hd;have G:=F.1;have H:=F.2;clear h M hd F;go_enter func213,ntmps213;go_wp2;go_loopw[1,4] (λm i wr=>∃(c:Nat) (j q:Int) (Y:List Int),m=Iq j/\i=Iq q/\q<=(c:Int)-1/\(c:Int)-1<=q/\c<=n/\0<=j/\j<=1099511627776/\Hid (gb d c j Y=gb d n b [])/\Hid (c+Y.length=n)/\Hid (aV wr a off (d.take c++Y))/\Hid (w.grownBy wr (some a))) (λ_ i _=>(intOf i+1).toNat);case atStart=>exact⟨n,b,(n:Int)-1,[],rfl,by go_num,dg,dg,ae _,G,H,by show _=_;rfl,by show _=_;rfl,by show aV _ _ _ _;rw[jH,eP (by rw[J.out];omega)];exact Q,dx _ _⟩
 case round=>
  obtain⟨c,j,q,Y,rfl,rfl,h1,h2,V,W,X,B,z,g,l⟩:=hrel;match c with
  |0=>
   have N:¬(0:Int)<=q:=dg;go_wp2;go_end0;exact⟨rfl,by have:=g.out;have h0:=B.out;simp_all[gb],l⟩
  |c+1=>
   have O:(0:Int)<=q:=dg;obtain rfl:q=(c:Int):=dg;obtain⟨x,I⟩:=ad (d[c]?.getD 0);have v:c<d.length:=by rw[J.out];omega
   have p:=P x rd;have Z:=p.1;have za:=p.2;have K:(c:Int)<(n:Int):=dg;have o:=(jc d c v).1;rw[I]at o;have f:=g.out;rw[o]at f;have k:(d.take c).length=c:=by rw[b_];omega
   have R:(d.take c++[x]++Y).length=n:=by have:=z.out;simp only[aU,b_,dP,fP];omega
   have t:(d.take c++[x]++Y)[c]?.getD 0=x:=by
    have:(d.take c++[x]++Y)[(d.take c).length]?.getD 0=x:=by simp[cM]
    rw[k]at this;exact this
   have c0:wr.cell? (aj a (off+c))=some (Iq x):=by rw[(f.2 c dg).1,t]
   have f0:=(f.2 c dg).2;obtain⟨bk,u⟩:=ad (min j x);have s:Hid (aV (wr.setCell (aj a (off+c)) (Iq (x-bk))) a off (d.take c++((x-bk)::Y))):=by have:=Fm f c (x-bk) dg;have e:=MD (d.take c) x (x-bk) Y;rw[k]at e;rw[e]at this;exact this
   have r:Hid (gb d c (j-bk) ((x-bk)::Y)=gb d n b []):=by have:=B.out;simp only[gb]at this;rw[I,u]at this;exact this
   have A:Hid (c+((x-bk)::Y).length=n):=by show _=_;have:=z.out;simp only[dP];omega
   have C:Hid (w.grownBy (wr.setCell (aj a (off+c)) (Iq (x-bk))) (some a)):=grown_trans l (eJ _ _ _ _);have S:bk<=j:=dg;have T:bk<=x:=dg;have U:0<=bk:=dg;have y:bk=j/\j<=x\/bk=x/\x<j:=dg;clear I p o f k R t g l B z u v;rcases y with⟨rfl,E⟩|⟨rfl,E⟩
   ·rw[Int.sub_self]at r;go_wp2;go_roundw;case rel=>grind
    case measure=>simp[intOf]<;>omega
   ·rw[Int.sub_self]at r A s C;go_wp2;go_roundw;case rel=>grind
    case measure=>simp[intOf]<;>omega
section
def aq(f:Nat->Int)(l:List Nat):Int:=(l.map f).sum
theorem nE f:aq f []=0:=rfl
theorem bE f j l:aq f (j::l)=f j+aq f l:=by simp[aq]
theorem kI f l m:aq f (l++m)=aq f l+aq f m:=by simp[aq]
theorem dm f l j:aq f (l++[j])=aq f l+f j:=by simp[aq]
theorem ln{f}{l m}(h:l.Perm m):aq f l=aq f m:=by
 induction h with
 |nil=>rfl
 |cons x _ c=>grind[bE]
 |swap x y l=>simp only[bE];omega
 |trans _ _ a b=>omega
theorem jx{f g}{l}(h:∀j∈l,f j<=g j):aq f l<=aq g l:=by
 induction l with
 |nil=>exact iD _
 |cons a l b=>grind[bE]
theorem bg{f g}{l}(h:∀j∈l,f j=g j):aq f l=aq g l:=
 Int.le_antisymm (jx λj a=>Int.le_of_eq (h j a)) (jx λj a=>Int.le_of_eq (h j a).symm)
theorem eW f g l:aq (λj=>f j+g j) l=aq f l+aq g l:=by
 induction l with
 |nil=>rfl
 |cons a l b=>grind[bE]
theorem eX c f l:aq (λj=>c*f j) l=c*aq f l:=by
 induction l with
 |nil=>simp[aq]
 |cons a l b=>grind[bE]
theorem cm{f}{l}(h:∀j∈l,0<=f j):0<=aq f l:=by
 induction l with
 |nil=>exact iD _
 |cons a l b=>grind[bE]
theorem eE{f}{l}{b}(h:∀j∈l,f j<=b):aq f l<=(l.length:Int)*b:=by
 induction l with
 |nil=>simp[aq]
 |cons a l d=>have:=h a rn;have:=d λj c=>h j (by simp[c]);rw[bE,dP,Int.natCast_add,D_];omega
theorem ii{f}{l}(h:∀j∈l,0<=f j){i}(hi:i∈l):f i<=aq f l:=by
 induction l with
 |nil=>grind
 |cons a l d=>have h1:=h a rn;have c:0<=aq f l:=cm λj b=>h j (by simp[b]);grind[bE]
theorem kJ{f}{l A}(g:l.Nodup)(i:A.Nodup)(c:∀j∈A,j∈l)(b:∀j∈l,j∉A->f j=0):aq f l=aq f A:=by
 induction A generalizing l with
 |nil=>
  rw[nE];have:=bg λj e=>b j e rn;rw[this];clear this b c g;induction l with
  |nil=>rfl
  |cons a l h=>grind[bE]
 |cons a A h=>have d:=c a rn;have hp:=List.perm_cons_erase d;rw[ln hp,bE,bE];grind
variable{Mn Mx Wt:Nat->Int}
theorem Fa{A B}{i}{L W}(p:∀j,0<=Mx j-Mn j)(k:∀j∈A,0<Wt j/\(Mx j-Mn j)*Wt i<=(Mx i-Mn i)*Wt j)(hi:0<Wt i)(l:∀j∈B,0<Wt j)(n:W=aq Wt (i::B))(e:(Mx i-Mn i)*W<=L*Wt i):
 0<=L-(Mx i-Mn i)/\∀j∈A++[i],(Mx j-Mn j)*(W-Wt i)<=(L-(Mx i-Mn i))*Wt j:=by
 have m:=cm λj a=>D' (l j a);rw[bE]at n;have f:=p i;have h1:(Mx i-Mn i)*Wt i<=(Mx i-Mn i)*W:=Kk dg f;have r:=NT (gH h1 e) hi;have b:0<=W-Wt i:=dg;have c:(Mx i-Mn i)*(W-Wt i)<=(L-(Mx i-Mn i))*Wt i:=by rw[Int.mul_sub (Mx i-Mn i) W (Wt i),Int.sub_mul L (Mx i-Mn i) (Wt i)];omega
 refine⟨dg,λj a=>?_⟩;rcases gF.1 a with a|a
 ·obtain⟨o,d⟩:=k j a;have g:=iF d b;have h:(Mx i-Mn i)*(W-Wt i)*Wt j<=(L-(Mx i-Mn i))*Wt i*Wt j:=iF c dg;have q:(Mx j-Mn j)*(W-Wt i)*Wt i<=(L-(Mx i-Mn i))*Wt j*Wt i:=by rw[eI (Mx j-Mn j),eI (L-(Mx i-Mn i))];refine gH g ?_;rw[eI (Mx i-Mn i)];exact h
  simp_all
 grind
theorem FC{B}{i}{L W}(hi:0<Wt i)(h:0<W)(f:∀k∈B,0<Wt k/\(Mx i-Mn i)*Wt k<=(Mx k-Mn k)*Wt i)(a:L*Wt i<(Mx i-Mn i)*W):∀k∈i::B,L*Wt k<(Mx k-Mn k)*W:=by
 intro k b;rcases gE.1 b with rfl|b;·exact a
 ·obtain⟨h1,e⟩:=f k b;have c:=Ea a h1;have d:(Mx i-Mn i)*Wt k*W<=(Mx k-Mn k)*Wt i*W:=iF e dg;have g:L*Wt k*Wt i<(Mx k-Mn k)*W*Wt i:=by rw[eI L,eI (Mx k-Mn k)];refine nL c ?_;rw[eI (Mx i-Mn i)];exact d
  simp_all
theorem jo{S}{L W}(c:W=aq Wt S)(b:0<W):0<=L-aq (λj=>L*Wt j/W) S/\L-aq (λj=>L*Wt j/W) S<S.length:=by
 have e:aq (λj=>L*Wt j) S=W*aq (λj=>L*Wt j/W) S+aq (λj=>L*Wt j %W) S:=by rw[<-eX,<-eW];exact bg λj _=>(Int.mul_ediv_add_emod _ _).symm
 rw[eX,<-c]at e;have f0:0<=aq (λj=>L*Wt j %W) S:=cm λj _=>Aj _ dg;have f1:aq (λj=>L*Wt j %W) S<=(S.length:Int)*(W-1):=eE λj _=>by have:=Eb (L*Wt j) b;omega
 have hS:S≠[]:=by intro h;rw[h,nE]at c;omega
 have d:(0:Int)<S.length:=by have:=jI.2 hS;omega
 obtain⟨q,f⟩:=ad (aq (λj=>L*Wt j/W) S);rw[f]at e⊢;have g:W*(L-q)=aq (λj=>L*Wt j %W) S:=by rw[Int.mul_sub,iG W L];omega
 refine⟨?_,?_⟩;·exact Int.le_of_mul_le_mul_left dg b
 ·refine Int.lt_of_mul_lt_mul_left (a:=W) ?_ dg;grind
structure bH(n:Nat)(Mn Mx Wt:Nat->Int)(r:Int)(a:Nat->Int)(A S:List Nat)(L W:Int)(m:Nat):Prop where
 perm:(A++S).Perm ((List.range n).filter λj=>decide (0<Wt j))
 left:L=r-aq Mn (List.range n)-aq (λj=>Mx j-Mn j) A
 pos:0<=L
 weight:W=aq Wt S
 full:∀j∈A,(Mx j-Mn j)*W<=L*Wt j
 open_:∀j∈S,L*Wt j<(Mx j-Mn j)*W
 miss:S≠[]->(m:Int)=L-aq (λj=>L*Wt j/W) S
 none_:S=[]->m=0
 sorted:S.Pairwise λi k=>L*Wt k %W<L*Wt i %W\/(L*Wt i %W=L*Wt k %W/\i<k)
 is:∀j,j<n->a j=if j∈A then Mx j else if j∈S then Mn j+L*Wt j/W+(if j∈S.take m then 1 else 0)else Mn j
theorem bH.facts{n}{r}{a}{A S}{L W}{m}(h:bH n Mn Mx Wt r a A S L W m):
 A.Nodup/\S.Nodup/\(∀j∈A,j∉S)/\(∀j∈A,j<n/\0<Wt j)/\(∀j∈S,j<n/\0<Wt j)/\(∀j,j<n->0<Wt j->j∈A\/j∈S):=by
 have b:((List.range n).filter λj=>decide (0<Wt j)).Nodup:=uu.filter _;have c:=h.perm.nodup_iff.2 b;rw[Kd]at c;have d:∀j,j∈A++S↔j<n/\0<Wt j:=λj=>by rw[h.perm.mem_iff];simp
 grind
theorem E0{x y W:Int}(a:0<W)(h:x<y*W):x/W+1<=y:=by have:=Int.ediv_lt_of_lt_mul a h;omega
theorem bH.bds{n}{r}{a}{A S}{L W}{m}(h:bH n Mn Mx Wt r a A S L W m)(g:∀j,Mn j<=Mx j)(hp:∀j,0<=Wt j):
 ∀j,j<n->Mn j<=a j/\a j<=Mx j/\(Wt j=0->a j=Mn j):=by
 obtain⟨o,hS,hd,i,e,d⟩:=h.facts;intro j f;rw[h.is j f];have:=g j;have:=hp j;by_cases h1:j∈A;·grind
 ·rw[if_neg h1];by_cases c:j∈S
  ·rw[if_pos c];have b:0<W:=by rw[h.weight];exact nL (e j c).2 (ii (λk _=>hp k) c)
   have:=E0 b (h.open_ j c);have l:0<=L*Wt j/W:=Ak (gx h.pos (hp j)) dg;grind
  grind
theorem yW S(hS:S.Nodup)m(c:m<=S.length):aq (λj=>if j∈S.take m then 1 else 0) S=m:=by
 have e:aq (λj=>if j∈S.take m then(1:Int)else 0) S=aq (λj=>if j∈S.take m then(1:Int)else 0) (S.take m):=
  kJ hS (hS.sublist (List.take_sublist _ _)) (λj b=>iH b) (λj _ b=>if_neg b);rw[e,bg (g:=λ_=>1) (λj b=>if_pos b)];have:∀l:List Nat,aq (λ_=>(1:Int)) l=l.length:=by
  intro l;induction l with
  |nil=>rfl
  |cons a l d=>grind[bE]
 grind
theorem bH.sum{n}{r}{a}{A S}{L W}{m}(h:bH n Mn Mx Wt r a A S L W m)(hp:∀j,0<=Wt j):
 (S≠[]->aq a (List.range n)=r)/\(S=[]->aq a (List.range n)=aq (λj=>if 0<Wt j then Mx j else Mn j) (List.range n)/\L=r-aq a (List.range n)):=by
 obtain⟨q,hS,hd,v,p,f⟩:=h.facts;have g:(List.range n).Nodup:=uu;have e:aq a (List.range n)=aq Mn (List.range n)+aq (λj=>(if j∈A then Mx j-Mn j else 0)+(if j∈S then L*Wt j/W+(if j∈S.take m then 1 else 0)else 0)) (List.range n):=by
  rw[<-eW];refine bg λj b=>?_;rw[h.is j rd];by_cases h1:j∈A;·grind
  ·grind
 have l:aq (λj=>if j∈A then Mx j-Mn j else 0) (List.range n)=aq (λj=>Mx j-Mn j) A:=by rw[kJ (A:=A) g q (λj b=>rd) (λj _ b=>if_neg b)];exact bg λj b=>if_pos b
 have o:aq (λj=>if j∈S then L*Wt j/W+(if j∈S.take m then 1 else 0)else 0) (List.range n)=aq (λj=>L*Wt j/W) S+aq (λj=>if j∈S.take m then 1 else 0) S:=by rw[kJ (A:=S) g hS (λj b=>rd) (λj _ b=>if_neg b),<-eW];exact bg λj b=>if_pos b
 rw[eW,l,o]at e;have w:=h.left;refine⟨λc=>?_,λt=>?_⟩
 ·have d:0<W:=by obtain⟨x,i⟩:=uw S c;rw[h.weight];exact nL (p x i).2 (ii (λk _=>hp k) i)
  have u:=h.miss c;have s:=jo (L:=L) h.weight d;rw[<-u]at s;grind[yW]
 ·subst t;simp only[nE]at e;refine⟨?_,dg⟩;refine bg λj b=>?_;rw[h.is j (by simpa using b)];grind
theorem bH.tiles{n}{r}{a}{A S}{L W}{m}(h:bH n Mn Mx Wt r a A S L W m)(d:∀j,Mn j<=Mx j)(hp:∀j,0<=Wt j):
 aq a (List.range n)=min r (aq (λj=>if 0<Wt j then Mx j else Mn j) (List.range n)):=by
 have c:=h.sum hp;have e:=h.bds d hp;by_cases b:S=[];·have:=c.2 b;have:=h.pos;omega
 grind[aq,jx]
theorem xh d(hd:∀i,i<d.length->0<=d[i]?.getD 0):∀  c   m   Y,c<=d.length->0<=m->m<=(d.take c).sum->
 ∃X,gb d c m Y=X++Y/\X.length=c/\(∀i,i<c->0<=X[i]?.getD 0/\X[i]?.getD 0<=d[i]?.getD 0)/\X.sum=(d.take c).sum-m/\(∀i k,i<k->k<c->X[i]?.getD 0<d[i]?.getD 0->X[k]?.getD 0=0)/\(m=0->∀i,i<c->X[i]?.getD 0=d[i]?.getD 0)
 |0,m,Y,_,f,h=>⟨[],rfl,rfl,λi hi=>dg,rd,λi k _ b=>dg,λ_ i hi=>dg⟩
 |c+1,m,Y,r,f,h=>by
  have n:=hd c dg;have l:(d.take (c+1)).sum=(d.take c).sum+d[c]?.getD 0:=by rw[gG dg,dI dg,Kl];simp only[List.sum_cons,List.sum_nil,Km];omega
  have j:0<=(d.take c).sum:=by
   have:∀k,k<=d.length->0<=(d.take k).sum:=by
    intro k b;induction k with
    |zero=>simp
    |succ k o=>have h1:=o dg;have p:=hd k dg;rw[gG dg];grind
   exact this c dg
  obtain⟨x,a⟩:=ad (d[c]?.getD 0);rw[a]at n l;obtain⟨X,e,g,q,s,b,t⟩:=xh d hd c (m-min m x) ((x-min m x)::Y) dg dg dg;refine⟨X++[x-min m x],by grind[gb],by simp[g],?_,?_,?_,?_⟩;·grind
  all_goals grind
end
theorem Ii(F:List Int)(g b c s:Nat)(W:World)(t:W.cell? (aj g 0)=some (.slice (some (aj b c)) F.length s))(hF:∀j,j<F.length->W.cell? (aj b (c+j))=some (Iq (F[j]?.getD 0)))(i k:Nat)(hi:i<F.length)(l:k<F.length)(a:F.length<=1099511627776):
 Cw 254 #[Iq i,Iq k,Pq g] W λe r=>e=Rw (Iq (iR (F[k]?.getD 0) (F[i]?.getD 0)))/\∃q os,r=grow (W.drewN q) os:=by
 obtain⟨n,o⟩:=ad F.length;obtain⟨x,d⟩:=ad (F[i]?.getD 0);obtain⟨y,hy⟩:=ad (F[k]?.getD 0);have A:W.cell? (aj b (c+i))=some (Iq x):=by rw[hF i hi,d]
 have c1:W.cell? (aj b (c+k))=some (Iq y):=by rw[hF k l,hy]
 have w:prog.follows .mixedOrders=true:=ns;rw[o]at t hi l a;rw[d,hy];have u:(i:Int)<(n:Int):=dg;have v:(k:Int)<(n:Int):=dg;obtain⟨z,f⟩:=ad (iR y x);have p:=qH<|λm=>by have:=oM y x (W.drewN m);rw[f]at this;exact this
 rw[f];clear hF o d hy f;go_enter func254,ntmps254;go_wp2_with fail;go_quiet(first|(go_at_call 252;exact(p _).mono (λe w' h=>⟨h.1,_,h.2⟩)));go_wp2;go_ret;exact⟨rfl,_,#[],(grow_empty _).symm⟩
theorem JZ(W:World)a b:∃q os,((W.alloc a).alloc b).drew=grow (W.drewN q) os:=
 ⟨1,#[a]++#[b],by rw[alloc_eq_grow,alloc_eq_grow,grow_grow];rfl⟩
theorem Ib(n o b d wc:Nat)(W:World)(O:W.cell? (aj o 0)=some (.slice (some (aj b d)) n wc))(i k:Nat)(f g h j l m:Int)(D:W.cell? (aj b (d+i*3))=some (Iq f))(E:W.cell? (aj b (d+i*3+1))=some (Iq g))(F:W.cell? (aj b (d+i*3+2))=some (Iq h))(G:W.cell? (aj b (d+k*3))=some (Iq j))(H:W.cell? (aj b (d+k*3+1))=some (Iq l))(I:W.cell? (aj b (d+k*3+2))=some (Iq m))(c:0<=g-f/\g-f<=1073741824/\0<=h/\h<=1073741824)(a:0<=l-j/\l-j<=1073741824/\0<=m/\m<=1073741824)(hi:i<n)(P:k<n)(y:n<=1099511627776)(J:o<W.heap.size)(N:b<W.heap.size):
 Cw 251 #[Iq i,Iq k,Pq o] W λe C=>e=Rw (Iq (iR ((g-f)*m) ((l-j)*h)))/\∃q os,C=grow (W.drewN q) os:=by
 have M:prog.follows .mixedOrders=true:=ns;have K:(i:Int)<(n:Int):=dg;have L:(k:Int)<(n:Int):=dg;obtain⟨r,t⟩:=ad (g-f);obtain⟨s,u⟩:=ad (l-j);rw[t]at c⊢;rw[u]at a⊢;obtain⟨p,hp⟩:=ad (r*m);obtain⟨q,A⟩:=ad (s*h);have v:0<=p/\p<=1152921504606846976:=by rw[<-hp];refine⟨gx c.1 a.2.2.1,?_⟩;exact gH (kP c.2.1 a.2.2.2 a.2.2.1 dg) (by decide)
 have w:0<=q/\q<=1152921504606846976:=by rw[<-A];refine⟨gx a.1 c.2.2.1,?_⟩;exact gH (kP a.2.1 c.2.2.2 c.2.2.1 dg) (by decide)
 have Q:IntKind.i64.wrap r=r:=IntWalk.i64_in _ ⟨dg,dg⟩;have R:IntKind.i64.wrap s=s:=IntWalk.i64_in _ ⟨dg,dg⟩;have w3:IntKind.i64.wrap p=p:=IntWalk.i64_in _ ⟨dg,dg⟩;have S:IntKind.i64.wrap q=q:=IntWalk.i64_in _ ⟨dg,dg⟩;obtain⟨z,x⟩:=ad (iR p q);have B:=qH<|λw'=>by have:=oM p q w';rw[x]at this;exact this
 rw[hp,A,x];clear x v w c a;go_enter func251,ntmps251;go_wp2_with fail;go_big_region;all_goals(go_wp2_with(go_at_call 252;refine(B _).mono ?_;rintro e T ⟨rfl,rfl⟩))
 all_goals go_ret
 all_goals simp_all[JZ]
theorem pQ x y:iR x y<0↔x<y:=by grind[iR]
theorem Dh x y:-1<=iR x y/\iR x y<=1:=by grind[iR]
def tm(F:Int->Int)(i k:Int):Prop:=F k<F i\/(F i=F k/\i<k)
theorem Jf F D:Ord (λi k=>iR (F k) (F i)) D (tm F)where
 lt:=λx _ y _ h=>Or.inl ((pQ _ _).1 h)
 ge:=λx _ y _ a h=>by
  have h1:¬F x<F y:=λc=>h ((pQ _ _).2 c);by_cases e:F x=F y;·exact Or.inr ⟨e,a⟩
  ·exact Or.inl dg
 trans:=λx _ y _ z _ h1 c=>by grind[tm]
 bd:=λx _ y _=>Dh _ _
def wa(M V:Int->Int)(i k:Int):Prop:=M i*V k<M k*V i\/(M i*V k=M k*V i/\i<k)
theorem Ht{a b c u v w:Int}(hu:0<u)(h:0<v)(i:0<w)(h1:a*v<=b*u)(f:b*w<=c*v):a*w<=c*u:=by
 have d:a*v*w<=b*u*w:=iF h1 dg;have e:b*w*u<=c*v*u:=iF f dg;have g:a*w*v<=c*u*v:=by rw[eI a w v,eI c u v];refine gH d ?_;rw[eI b u w];exact e
 simp_all
theorem Hu{a b c u v w:Int}(hu:0<u)(j:0<v)(g:0<w)(h1:a*v<=b*u)(f:b*w<=c*v)(d:a*v<b*u\/b*w<c*v):a*w<c*u:=by
 have e:a*v*w<=b*u*w:=iF h1 dg;have h:b*w*u<=c*v*u:=iF f dg;have i:a*w*v<c*u*v:=by
  rw[eI a w v,eI c u v];rcases d with d|d;·refine nL (Ea d g) ?_;grind
  ·refine Int.lt_of_le_of_lt e ?_;rw[eI b u w];simp_all
 simp_all
theorem Je M V D(a:∀i∈D,0<V i):Ord (λi k=>iR (M i*V k) (M k*V i)) D (wa M V)where
 lt:=λx _ y _ h=>Or.inl ((pQ _ _).1 h)
 ge:=λx _ y _ d h=>by
  have h1:¬M y*V x<M x*V y:=λb=>h ((pQ _ _).2 b);by_cases e:M x*V y=M y*V x;·exact Or.inr ⟨e,d⟩
  ·exact Or.inl dg
 trans:=λx g y hy z j h1 b=>by
  have l:M x*V y<=M y*V x:=by rcases h1 with h|⟨h,_⟩<;>omega
  have m:M y*V z<=M z*V y:=by rcases b with h|⟨h,_⟩<;>omega
  by_cases c:M x*V y<M y*V x\/M y*V z<M z*V y;·exact Or.inl (Hu (a x g) (a y hy) (a z j) l m c)
  ·have n:¬M x*V y<M y*V x:=λh=>c (Or.inl h);have o:¬M y*V z<M z*V y:=λh=>c (Or.inr h);have p:x<y:=by rcases h1 with h|⟨_,h⟩;exact(n h).elim;exact h
   have q:y<z:=by rcases b with h|⟨_,h⟩;exact(o h).elim;exact h
   have c1:=Ht (a x g) (a y hy) (a z j) l m;by_cases e:M x*V z=M z*V x;·exact Or.inr ⟨e,dg⟩
   ·exact Or.inl dg
 bd:=λx _ y _=>Dh _ _
theorem EV(F:List Int)c d e g a f(m:f.cell? (aj c 0)=some (.slice (some (aj d e)) F.length g))(hF:∀j,j<F.length->f.cell? (aj d (e+j))=some (Iq (F[j]?.getD 0)))(D:List Int)(h:∀x∈D,∃j:Nat,x=j/\j<F.length)(b:F.length<=1099511627776)(h1:c≠a)(q:d≠a):
 AJ 254 #[Pq c] (λi k=>iR (F[k.toNat]?.getD 0) (F[i.toNat]?.getD 0)) D f a:=by intro W l x p y hy;obtain⟨i,rfl,hi⟩:=h x p;obtain⟨k,rfl,o⟩:=h y hy;exact Ii F c d e g W (l.cell m rd) (λj n=>l.cell (hF j n) rd) i k hi o b
theorem EU n f d l wc b(Mn Mx Wt:Nat->Int)c(p:c.cell? (aj f 0)=some (.slice (some (aj d l)) n wc))(e:∀j,j<n->c.cell? (aj d (l+j*3))=some (Iq (Mn j))/\c.cell? (aj d (l+j*3+1))=some (Iq (Mx j))/\c.cell? (aj d (l+j*3+2))=some (Iq (Wt j)))(o:∀j,j<n->0<=Mx j-Mn j/\Mx j-Mn j<=1073741824/\0<=Wt j/\Wt j<=1073741824)(D:List Int)(m:∀x∈D,∃j:Nat,x=j/\j<n)(h:n<=1099511627776)(h1:f≠b)(t:d≠b)(r:f<c.heap.size)(s:d<c.heap.size):
 AJ 251 #[Pq f] (λi k=>iR ((Mx i.toNat-Mn i.toNat)*Wt k.toNat) ((Mx k.toNat-Mn k.toNat)*Wt i.toNat)) D c b:=by intro W a x q y hy;obtain⟨i,rfl,hi⟩:=m x q;obtain⟨k,rfl,g⟩:=m y hy;exact Ib n f d l wc W (a.cell p rd) i k (Mn i) (Mx i) (Wt i) (Mn k) (Mx k) (Wt k) (a.cell (e i hi).1 rd) (a.cell (e i hi).2.1 rd) (a.cell (e i hi).2.2 rd) (a.cell (e k g).1 rd) (a.cell (e k g).2.1 rd) (a.cell (e k g).2.2 rd) (o i hi) (o k g) hi g h (zz007 r a.size) (zz007 s a.size)
