import Derived.Test.YtehgehanbnkdiaaGreatDoorQ08
import Derived.Shelf.Abstract
import Derived.Shelf.SlSortCmp.QuietGrown
set_option linter.all false
set_option maxRecDepth 100000
set_option maxHeartbeats 16000000
namespace Go.Proofs.YtehgehanbnkdiaaGreatDoor
open Go.RowKit Go.Sort Go.Proofs.Tryz
def xZ(g:Nat)(lb:Array Fd)(cf:Int->Int->Int)(D:zzc)(w0:AT)(blk:Nat):Prop:=
 ∀W,w0.grownBy W (some blk)->∀x∈D,∀y∈D,Cw g (#[Iq x,Iq y]++lb) W λe W'=>e=Rw (Iq (cf x y))/\∃q os,W'=grow (W.drewN q) os
theorem ir W q os:Bq W (grow (W.drewN q) os):=
 ⟨rfl,rfl,rfl,by simp_all,λk a=>by show(W.heap++os)[k]?=_;grind⟩
def xZ.ok{g}{c}{b}{D}{d}{a}(h:xZ g c b D d a):uu g c b D d a:=
 λW f x j y hy=>(h W f x j y hy).mono λe k ⟨i,q,os,l⟩=>⟨i,by grind[ir]⟩
def L_(M:zzc):M=[]\/∃a y,M=a++[y]:=by rcases List.eq_nil_or_concat M with h|⟨a,y,h⟩;all_goals grind
def GY(A a b:zzc)k(c:k<A.length)(h:(a++b).Perm (A.take k)):(a++[A[k]?.getD 0]++b).Perm (A.take (k+1)):=by grind[ia]
def GX{R:Int->Int->Prop}a b x(h:(a++b).Pairwise R)(c:∀y∈a,R y x)(d:∀y∈b,R x y):(a++[x]++b).Pairwise R:=rn
def Sorted(w w':AT)(blk off:Nat)(R:Int->Int->Prop)(P A S:zzc):Prop:=
 (∃M:List Int,M.Perm A/\M.Pairwise R/\aO w' blk off (P++M++S))/\w.grownBy w' (some blk)
def Lw(g:Nat)(lb:Array Fd)(eg:∀args w,(callFunc g args).run prog w=.ok (.enter g args) w)(cf:Int->Int->Int)(D:zzc)(R:Int->Int->Prop)(hO:Ord cf D R)(w0:AT)(c off zF:Nat)(zt:xZ g lb cf D w0 c)(P A S:zzc)(w:AT)(n a b:Nat)(zK:w0.grownBy w (some c))(h:aO w c off (P++A++S))(zG:∀x∈A,x∈D)(zr:A.Pairwise (·<·))(hn:(P++A++S).length=n)(zM:n<=1099511627776)(ha:P.length=a)(hb:P.length+A.length=b):
 Cw 375 #[.slice (some (aq c off)) n zF,Iq a,Iq b,.func (.func g) #[] lb] w λe w'=>e=Rw (.tuple #[])/\Sorted w w' c off R P A S:=by
 have HR:=qH<|h;have HO:=qH<|hO;have zE:=qH<|zK;have zC:=qH<|zt;have zi:=qH<|zG;have zB:=qH<|zr;have zU:prog.follows .mixedOrders=true:=pt;have zR:b<=n:=by rw[<-hb,<-hn];simp only[aN];omega
 have zQ:b<=a+A.length:=dg;have HN:Hid (P.length+A.length+S.length=n):=qH<|by rw[<-hn];simp only[aN]
 have HA:=qH<|ha;go_enter func375,ntmps375;go_wp2;go_loopw[8] (λi wr=>∃(u k:Nat) (M:zzc),i=Iq u/\a+k<=u/\u<=a+k/\1<=k/\(k<=A.length\/k=1)/\Hid (M.Perm (A.take k))/\Hid (M.Pairwise R)/\Hid (aO wr c off (P++M++A.drop k++S))/\Hid (w.grownBy wr (some c))) (λi _=>b+2-(intOf i).toNat)
 .refine⟨a+1,1,A.take 1,by go_num,dg,dg,dg,Or.inr rfl,JJ _,?_,?_,cT _ _⟩;.show List.Pairwise R _;match A with
   |[]=>simp_all
   |x::l=>grind
  .show aO _ _ _ _;have:=HR.out;rw[cA P,eT];omega
 obtain⟨u,k,M,rfl,zX,zY,zS,zT,HM,V,K,zu⟩:=hrel;by_cases Q:k<A.length
 .have zv:(u:Int)<(b:Int):=dg;obtain⟨x,hx⟩:=af (A[k]?.getD 0);have HX:=qH<|hx;have N:Hid (x∈D):=by show x∈D;rw[<-hx];exact zi _ (dO Q)
  have L:Hid (M.length=k):=qH<|by rw[HM.length_eq,cL];omega
  have F:Hid (∀y∈M,y∈D/\y<x):=by intro y hy;obtain⟨t,ht,zH,e⟩:=gt (HM.mem_iff.1 hy);rw[<-e,<-hx];exact⟨zi _ (dO zH),iD zB ht Q⟩
  have zg:Hid (aO wr c off (P++M++[x]++[]++(A.drop (k+1)++S))):=by have:=K.out;rw[(ia A k Q).2,hx]at this;show aO _ _ _ _;simpa[cA]using this
  go_wp2;go_loopw[9] (λj wr=>∃(v:Nat) (I r:zzc),j=Iq v/\a+I.length<=v/\v<=a+I.length/\I.length<=k/\Hid (M=I++r)/\Hid (∀y∈r,R x y)/\Hid (aO wr c off (P++I++[x]++r++(A.drop (k+1)++S)))/\Hid (w.grownBy wr (some c))) (λj _=>(intOf j).toNat);.exact⟨u,M,[],rfl,by rw[L.out];omega,by rw[L.out];omega,by rw[L.out];omega,rn,(λy hy=>by cases hy),zg,zu⟩
  obtain⟨v,I,r,rfl,zx,zy,zJ,B,H2,C,E⟩:=hrel;have o:Hid ((∀y∈I,R y x)->∃f,List.Perm f (A.take (k+1))/\f.Pairwise R/\(P++I++[x]++r++(A.drop (k+1)++S))=P++f++A.drop (k+1)++S):=by
   intro h1;refine⟨I++[x]++r,?_,?_,by simp[cA]⟩;.have:=HM.out;rw[B.out]at this;have:=GY A I r k Q this;rw[HX.out]at this;exact this
   .have:=V.out;rw[B.out]at this;exact GX I r x this h1 H2
  rcases L_ I with rfl|⟨f,y,rfl⟩
  .have zI:v=a:=by simp at zx zy;omega
   subst zI;obtain⟨f,d1,d2,d3⟩:=o (λy hy=>by cases hy);have d:Hid (aO wr c off (P++f++A.drop (k+1)++S)):=by have:=C.out;rw[d3]at this;exact this
   have D1:=qH<|d1;have D2:=qH<|d2;have m:=qH<|E.out;go_wp2_with fail;go_quiet(fail);go_wp2;go_roundw;.exact⟨u+1,k+1,f,by go_num,dg,dg,dg,Or.inl dg,D1,D2,d.drewN _,grown_trans m (vg _ _ _)⟩
   .simp[intOf];omega
  .have zq:(f++[y]).length=f.length+1:=At;rw[zq]at zx zy zJ;obtain⟨q,hq⟩:=af (a+f.length);have T:q+1=v:=dg;have zZ:(v:Int)-1=(q:Int):=dg;have zP:(a:Int)<(v:Int):=dg;have VL:(v:Int)<(n:Int):=dg;have zV:(q:Int)<(n:Int):=dg;have hwq:IntKind.i64.wrap (q:Int)=(q:Int):=IntWalk.i64_in _ ⟨dg,dg⟩;have O:(P++f).length=q:=by have:=HA.out;rw[aN];omega
   have J:Hid (y∈M):=by show y∈M;rw[B.out];simp
   have Z:((P++f)++[y]++[x]++(r++(A.drop (k+1)++S)))[q]?.getD 0=y:=by rw[<-O];exact(mu _ _ _ _).1
   have ze:((P++f)++[y]++[x]++(r++(A.drop (k+1)++S)))[v]?.getD 0=x:=by rw[<-T,<-O];exact(mu _ _ _ _).2
   have zl:((P++f)++[y]++[x]++(r++(A.drop (k+1)++S))).length=n:=by have h1:=L.out;rw[B.out]at h1;have:=HN.out;simp only[aN,dq,cV,eI]at*;omega
   have G:aO wr c off ((P++f)++[y]++[x]++(r++(A.drop (k+1)++S))):=by have:=C.out;simpa[cA]using this
   have c0:=cell_grown G.1 (by rw[(G.2 q dg).1,Z]);have c1:=cell_grown G.1 (by rw[(G.2 v dg).1,ze]);have Y:=λn' zL=>
    zC.out _ (grown_trans (grown_trans zE E) (grown_below (ir wr n' zL))) x N y (F y J).1;obtain⟨z,hz⟩:=af (cf x y);have HZ:=qH<|hz;have zo:=qH<|G;have W:Hid (q+1=v/\(P++f).length=q):=⟨T,O⟩;have HQ:=qH<|hq;have zj:=qH<|Z;have zk:=qH<|ze;have s:=qH<|zl;rw[hz]at Y;clear hq hz G O T Z ze zl zq C;go_wp2_with fail;go_quiet_grown(first|(go_at_fn g;refine Calls.grown_of (Y _ _)));have p:Hid (aO (grow (wr.drewN nq) osq) c off ((P++f)++[y]++[x]++(r++(A.drop (k+1)++S)))):=zo.below (ir _ _ _);have m:Hid (w.grownBy (grow (wr.drewN nq) osq) (some c)):=grown_trans E (grown_below (ir _ _ _));clear zo E c0 c1 Y;generalize grow (wr.drewN nq) osq=wc at p m|-;clear nq osq;by_cases U:z<0
   .have hd:decide (z<0)=true:=by simp[U]
    rw[hd];have H:=HO.lt x N y (F y J).1 (by rw[HZ.out];exact U);have zA:Hid (∀y'∈y::r,R x y'):=by
     intro y' zh;rcases kD.1 zh with rfl|X;.exact H
     .exact H2 y' X
    have zm:Hid (M=f++(y::r)):=qH<|by rw[B.out];simp
    have zN:q<n:=dg;have zO:v<n:=dg;have c0:wc.cell? (aq c (off+q))=some (Iq y):=by rw[(p.2 q (by rw[s.out];omega)).1,zj.out]
    have f0:=(p.2 q (by rw[s.out];omega)).2;have c1:wc.cell? (aq c (off+v))=some (Iq x):=by rw[(p.2 v (by rw[s.out];omega)).1,zk.out]
    have f1:=(p.2 v (by rw[s.out];omega)).2;have zn:Hid (aO ((wc.setCell (aq c (off+v)) (Iq y)).setCell (aq c (off+q)) (Iq x)) c off (P++f++[x]++(y::r)++(A.drop (k+1)++S))):=by have:=jL p v q (by rw[s.out];omega) (by rw[s.out];omega);rw[zj.out,zk.out,xp _ _ _ (by rw[s.out];omega) (by rw[s.out];omega)]at this;have zw:=qp (P++f) y x (r++(A.drop (k+1)++S));rw[W.2,W.1]at zw;rw[zw]at this;show aO _ _ _ _;simpa[cA]using this
    have HG:Hid (w.grownBy ((wc.setCell (aq c (off+v)) (Iq y)).setCell (aq c (off+q)) (Iq x)) (some c)):=
     grown_trans m (grown_trans (dI _ _ _ _) (dI _ _ _ _));have T:q<v:=by have:=W.1;omega
    clear p m H o;go_wp2;go_big_region;go_wp2;go_roundw;.exact⟨q,f,y::r,rfl,by have:=HQ.out;omega,by have:=HQ.out;omega,dg,zm,zA,zn,dX HG⟩
    .simp[intOf];omega
   .have hd:decide (z<0)=false:=by simp[U]
    rw[hd];have H:=HO.ge y (F y J).1 x N (F y J).2 (by rw[HZ.out];exact U);obtain⟨M3,d1,d2,d3⟩:=o (by
     intro y' zh;rcases jA.1 zh with X|X;.have hp:=V.out;rw[B.out]at hp;have h4:=(ig.1 (ig.1 hp).1).2.2 y' X y At;exact HO.trans y' (F y' (by rw[B.out];simp[X])).1 y (F y J).1 x N h4 H
     .rw[CF]at X;subst X;exact H);have d:Hid (aO wc c off (P++M3++A.drop (k+1)++S)):=by have:=p.out;show aO _ _ _ _;rw[<-d3];simpa[cA]using this
    have D1:=qH<|d1;have D2:=qH<|d2;clear d1 d2 d3 p o H;go_wp2;go_roundw;.exact⟨u+1,k+1,M3,by go_num,dg,dg,dg,Or.inl dg,D1,D2,d,m⟩
    .simp[intOf];omega
 .have zv:¬(u:Int)<(b:Int):=dg;have d:Hid (aO wr c off (P++M++S)):=by have:=K.out;rw[Cm dg]at this;show aO _ _ _ _;simpa[cA]using this
  have zD:Hid (M.Perm A):=by have:=HM.out;rw[im dg]at this;exact this
  clear K HM;go_wp2;go_end0;exact⟨rfl,⟨M,zD,V,d⟩,zu⟩
inductive ey(R:Int->Int->Prop)(s:Nat):List Int->List Int->Prop
 |nil:ey R s [] []
 |cons (T M L d:zzc):M.Perm T->M.Pairwise R->T.length<=s->(T.length=s\/L=[])->ey R s L d->ey R s (T++L) (M++d)
def sT(R:Int->Int->Prop)(s:Nat)(L1 Y:zzc):Prop:=∀L' d',ey R s L' d'->ey R s (L1++L') (Y++d')
def ey.len{R}{s}{L d}(h:ey R s L d):d.length=L.length:=by
 induction h with
 |nil=>rfl
 |cons T M L d a _ _ _ _ b=>rw[aN,aN,a.length_eq,b]
def ey.mem{R}{s}{L d}(h:ey R s L d):d.Perm L:=by
 induction h with
 |nil=>grind
 |cons T M L d a _ _ _ _ b=>grind
def ey.split{R}{s}{L d}(h:ey R s L d)(f:s<d.length):∃T M a d',L=T++a/\d=M++d'/\M.Perm T/\M.Pairwise R/\T.length=s/\ey R s a d':=by
 cases h with
 |nil=>simp at f
 |cons T M L d c i g b e=>
  rcases b with b|rfl;.grind
  .have:=e.len;have:=c.length_eq;grind
def ey.one{R}{s}{L d}(h:ey R s L d)(f:0<s)(e:d.length<=s):d.Perm L/\d.Pairwise R:=by
 cases h with
 |nil=>simp_all
 |cons T M L d b k j a c=>
  have g:=c.len;have i:=b.length_eq;have:d=[]:=by
   rcases a with a|rfl;.simp only[aN]at e;exact kH dg
   .grind
  grind
def ey.single{R}{s}{L d}(a:d.Perm L)(c:d.Pairwise R)(b:L.length<=s):ey R s L d:=by have:=ey.cons (R:=R) (s:=s) L d [] [] a c b (Or.inr rfl) .nil;grind
def sT.nil{R}{s}:sT R s [] []:=λ_ _ h=>h
def sT.snoc{R}{s}{a Y T M}(h:sT R s a Y)(c:M.Perm T)(f:M.Pairwise R)(e:T.length=s):sT R s (a++T) (Y++M):=λb d' d=>by rw[cA,cA];exact h _ _ (ey.cons T M b d' c f dg (Or.inl e) d)
def Au(g:Nat)(lb:Array Fd)(eg:∀args w,(callFunc g args).run prog w=.ok (.enter g args) w)(cf:Int->Int->Int)(D:zzc)(R:Int->Int->Prop)(hO:Ord cf D R)(w0:AT)(c off v:Nat)(zi:xZ g lb cf D w0 c)(L:zzc)(w:AT)(n:Nat)(zH:w0.grownBy w (some c))(h:aO w c off L)(hD:∀x∈L,x∈D)(zu:L.Pairwise (·<·))(hn:L.length=n)(zk:n<=1099511627776):
 Cw 369 #[.slice (some (aq c off)) n v,Iq n,.func (.func g) #[] lb] w λe w'=>e=Rw (.tuple #[])/\Sorted w w' c off R [] L []:=by
 have HR:=qH<|h;have zt:=qH<|zH;have HD:=qH<|hD;have ze:=qH<|zu;have HN:=qH<|hn;have CI:=qH<|
  λP A S W a b k h2 h3 h4 h5 h6 h7=>Lw g lb eg cf D R hO w0 c off v zi P A S W n a b (grown_trans zt k) h2 h3 h4 h5 zk h6 h7;have CS:=qH<|
  λP A B S W a m b k h2 h3 h4 h5 h6 h7 h8 h9 zy zA zB zC=>Cc g lb eg cf D R hO w0 c off v zi.ok (A.length+B.length) P A B S W n a m b LE (grown_trans zt k) h2 h3 h4 h5 h6 h7 h8 h9 zy zk zA zB zC;go_enter func369,ntmps369;go_wp2;go_loopw[7,8] (λi j wr=>∃(a b:Nat) (Q T Y:zzc),i=Iq a/\j=Iq b/\b<=a+20/\a+20<=b/\a<=n/\Hid (a+T.length=n)/\Hid (Y.length=a)/\Hid (L=Q++T)/\Hid (sT R 20 Q Y)/\Hid (aO wr c off (Y++T))/\Hid (w.grownBy wr (some c))) (λi _ _=>n-(intOf i).toNat);.exact⟨0,20,[],L,[],by go_num,by go_num,dg,dg,dg,rn,by show _=_;rfl,by show _=_;rfl,sT.nil,HR,cT _ _⟩
 obtain⟨a,b,Q,T,Y,rfl,rfl,zE,zF,zD,u,F,E,q,zl,zh⟩:=hrel;by_cases zq:b<=n
 .have U:(b:Int)<=(n:Int):=dg;have C:Hid (Cw 375 #[.slice (some (aq c off)) n v,Iq a,Iq b,.func (.func g) #[] lb] wr λe w'=>e=Rw (.tuple #[])/\Sorted wr w' c off R Y (T.take 20) (T.drop 20)):=by
   have:=u.out;have:=F.out;refine CI Y (T.take 20) (T.drop 20) wr a b zh ?_ ?_ ?_ ?_ F ?_;.rw[cA,eT];exact zl
   .intro x H;exact HD x (by rw[E.out];grind)
   .have k:=ze.out;rw[E.out]at k;grind
   .grind
   .grind
  go_wp2_with fail;refine Ut C ?_;rintro w2 ⟨⟨M,N,X,Z⟩,g2⟩;have zn:Hid (b+(T.drop 20).length=n):=qH<|by have:=u.out;rw[dq];omega
  have zx:(T.take 20).length=20:=by have:=u.out;rw[cL];omega
  have zo:Hid ((Y++M).length=b):=qH<|by have:=F.out;rw[aN,N.length_eq];omega
  have zm:Hid (L=(Q++T.take 20)++T.drop 20):=qH<|by rw[cA,eT];exact E
  have O:=qH<|q.snoc N X zx;have f:=qH<|Z;have l:=qH<|grown_trans zh g2;go_wp2;go_roundw;.exact⟨b,b+20,Q++T.take 20,T.drop 20,Y++M,rfl,by go_num,dg,dg,zq,zn,zo,zm,O,f,l⟩
  .simp[intOf];omega
 .have U:¬(b:Int)<=(n:Int):=dg;have C:Hid (Cw 375 #[.slice (some (aq c off)) n v,Iq a,Iq n,.func (.func g) #[] lb] wr λe w'=>e=Rw (.tuple #[])/\Sorted wr w' c off R Y T []):=by
   have:=u.out;have:=F.out;refine CI Y T [] wr a n zh (by simpa using zl.out) ?_ ?_ ?_ F dg;.intro x H;exact HD x (by rw[E.out];grind)
   .have k:=ze.out;rw[E.out]at k;grind
   .grind
  go_wp2_with fail;refine Ut C ?_;rintro w2 ⟨⟨M,N,X,Z⟩,g2⟩;have zJ:Hid (ey R 20 L (Y++M)):=by show ey R 20 L (Y++M);rw[E.out];exact q T M (ey.single N X (by have:=u.out;omega))
  have f:Hid (aO w2 c off (Y++M)):=by have:=Z;show aO _ _ _ _;simpa using this
  have l:=qH<|grown_trans zh g2;go_wp2;go_loopw[6] (λi wr=>∃(s:Nat) (d:zzc),i=Iq s/\20<=s/\s<=2*n+20/\Hid (ey R s L d)/\Hid (aO wr c off d)/\Hid (w.grownBy wr (some c))) (λi _=>n-(intOf i).toNat);.grind
  obtain⟨s,d,rfl,zI,zM,z,V,zj⟩:=hrel;by_cases zL:s<n
  .have zw:(s:Int)<(n:Int):=dg;obtain⟨t,ht⟩:∃t:Nat,2*s=t:=⟨_,rfl⟩;have zN:(2:Int)*(s:Int)=(t:Int):=dg;have zO:(s:Int)*(2:Int)=(t:Int):=dg;go_wp2;go_loopw[7,8] (λi j wr=>∃(a b:Nat) (Q L' Y d':zzc),i=Iq a/\j=Iq b/\b<=a+t/\a+t<=b/\a<=n/\Hid (a+d'.length=n)/\Hid (Y.length=a)/\Hid (L=Q++L')/\Hid (sT R t Q Y)/\Hid (ey R s L' d')/\Hid (aO wr c off (Y++d'))/\Hid (w.grownBy wr (some c))) (λi _ _=>n-(intOf i).toNat);.exact⟨0,t,[],L,[],d,by go_num,rfl,dg,dg,dg,by show _=_;have:=HN.out;have:=z.len;omega,by show _=_;rfl,by show _=_;rfl,sT.nil,z,V,zj⟩
   obtain⟨a,b,Q,L',Y,d',rfl,rfl,zE,zF,zD,u,F,E,q,r,p,o⟩:=hrel;by_cases zq:b<=n
   .have U:(b:Int)<=(n:Int):=dg;obtain⟨T1,M1,L2,d2,e1,e2,I,w1,l1,r1⟩:=r.split (by have:=u.out;omega);have zr:s<=d2.length:=by have k:=u.out;rw[e2,aN,I.length_eq]at k;omega
    obtain⟨T2,M2,L3,d3,f1,f2,J,K,l2,Z⟩:∃T M L' d',L2=T++L'/\d2=M++d'/\M.Perm T/\M.Pairwise R/\T.length=s/\ey R s L' d':=by
     by_cases hq:s<d2.length;.exact r1.split hq
     .have ho:=r1.one dg dg;exact⟨L2,d2,[],[],At,At,ho.1,ho.2,by have:=r1.len;omega,.nil⟩
    subst e1;subst e2;subst f1;subst f2;obtain⟨m,hm⟩:∃m:Nat,a+s=m:=⟨_,rfl⟩;have zG:(a:Int)+(s:Int)=(m:Int):=dg;have hL:=E.out;have G:=ze.out;rw[hL]at G;have zg:=(ig.1 G).2.1;have C:Hid (Cw 376 #[.slice (some (aq c off)) n v,Iq a,Iq m,Iq b,.func (.func g) #[] lb] wr λe w'=>e=Rw (.tuple #[])/\oQ wr w' c off R Y M1 M2 d3):=by
     have k:=u.out;have h2:=F.out;have q1:=I.length_eq;have q2:=J.length_eq;simp only[aN]at k;refine CS Y M1 M2 d3 wr a m b o (by simpa[cA]using p.out) ?_ ?_ w1 K ?_ dg dg (by simp only[aN];omega) F dg dg;.intro x H;exact HD x (by rw[hL];simp[I.mem_iff.1 H])
     .intro x H;exact HD x (by rw[hL];simp[J.mem_iff.1 H])
     .intro x H y hy;exact(ig.1 zg).2.2 x (I.mem_iff.1 H) y (jA.2 (Or.inl (J.mem_iff.1 hy)))
    have KP:Hid (M1.Perm T1/\M2.Perm T2/\T1.length=s/\T2.length=s):=⟨I,J,l1,l2⟩;have KR:=qH<|Z;go_wp2_with fail;refine Ut C ?_;rintro w2 ⟨⟨M,N,X,Z⟩,g2⟩;have zn:Hid (b+d3.length=n):=qH<|by have k:=u.out;have q1:=KP.1.length_eq;have q2:=KP.2.1.length_eq;have q3:=KP.2.2;simp only[aN]at k;omega
    have zo:Hid ((Y++M).length=b):=qH<|by have k:=F.out;have q1:=KP.1.length_eq;have q2:=KP.2.1.length_eq;have q3:=KP.2.2;rw[aN,N.length_eq,aN];omega
    have zm:Hid (L=(Q++(T1++T2))++L3):=qH<|by rw[E.out];simp[cA]
    have O:=qH<|q.snoc (N.trans (KP.1.append KP.2.1)) X (by have:=KP.2.2;rw[aN];omega);have f:=qH<|Z;have l:=qH<|grown_trans o g2;go_wp2;go_roundw;.exact⟨b,b+t,Q++(T1++T2),L3,Y++M,d3,rfl,by go_num,dg,dg,zq,zn,zo,zm,O,KR,f,l⟩
    .simp[intOf];omega
   .have U:¬(b:Int)<=(n:Int):=dg;obtain⟨m,hm⟩:∃m:Nat,a+s=m:=⟨_,rfl⟩;have zG:(a:Int)+(s:Int)=(m:Int):=dg;by_cases zK:m<n
    .have zv:(m:Int)<(n:Int):=dg;obtain⟨T1,M1,L2,d2,e1,e2,I,w1,l1,r1⟩:=r.split (by have:=u.out;omega);subst e1;subst e2;have zr:d2.length<=s:=by have k:=u.out;rw[aN,I.length_eq]at k;omega
     obtain⟨J,K⟩:=r1.one dg zr;have hL:=E.out;have G:=ze.out;rw[hL]at G;have zg:=(ig.1 G).2.1;have C:Hid (Cw 376 #[.slice (some (aq c off)) n v,Iq a,Iq m,Iq n,.func (.func g) #[] lb] wr λe w'=>e=Rw (.tuple #[])/\oQ wr w' c off R Y M1 d2 []):=by
      have k:=u.out;have h2:=F.out;have q1:=I.length_eq;simp only[aN]at k;refine CS Y M1 d2 [] wr a m n o (by simpa[cA]using p.out) ?_ ?_ w1 K ?_ dg dg (by simp only[aN,eI];omega) F dg dg;.intro x H;exact HD x (by rw[hL];simp[I.mem_iff.1 H])
      .intro x H;exact HD x (by rw[hL];simp[J.mem_iff.1 H])
      .intro x H y hy;exact(ig.1 zg).2.2 x (I.mem_iff.1 H) y (J.mem_iff.1 hy)
     have KE:Hid (∀M:List Int,M.Perm (M1++d2)->M.Pairwise R->ey R t L (Y++M)):=by intro M N X;have k:=u.out;rw[hL];refine q _ _ (ey.single (N.trans (I.append J)) X ?_);have q1:=I.length_eq;have q2:=J.length_eq;simp only[aN]at*;omega
     clear I J l1 r1 w1 K hm hL G zg zr;go_wp2_with fail;refine Ut C ?_;rintro w2 ⟨⟨M,N,X,Z⟩,g2⟩;have KR:=qH<|KE M N X;have f:Hid (aO w2 c off (Y++M)):=by have:=Z;show aO _ _ _ _;simpa using this
     have l:=qH<|grown_trans o g2;clear N X Z g2 C p o u F E q r KE;go_wp2;go_roundw;.exact⟨t,Y++M,rfl,dg,dg,KR,f,l⟩
     .simp[intOf];omega
    .have zv:¬(m:Int)<(n:Int):=dg;have KR:Hid (ey R t L (Y++d')):=by show ey R t L (Y++d');have k:=u.out;obtain⟨J,K⟩:=r.one dg dg;rw[E.out];exact q _ _ (ey.single J K (by have:=J.length_eq;omega))
     clear u F E q r hm;go_wp2;go_roundw;.exact⟨t,Y++d',rfl,dg,dg,KR,p,o⟩
     .simp[intOf];omega
  .have zw:¬(s:Int)<(n:Int):=dg;have HF:=qH<|z.one dg (by have:=z.len;have:=HN.out;omega);go_wp2;go_end0;exact⟨rfl,⟨d,HF.1,HF.2,by simpa using V.out⟩,zj⟩
def jr(g:Nat)(k:Array Fd)(s:∀args w,(callFunc g args).run prog w=.ok (.enter g args) w)(j:Int->Int->Int)(D:zzc)(R:Int->Int->Prop)(o:Ord j D R)(l:AT)(a off d:Nat)(c:xZ g k j D l a)(L:zzc)(w:AT)(n:Nat)(i:l.grownBy w (some a))(h:aO w a off L)(m:∀x∈L,x∈D)(b:L.Pairwise (·<·))(p:L.length=n)(f:n<=1099511627776):
 Cw 352 #[.slice (some (aq a off)) n d,.func (.func g) #[] k] w λe w'=>e=Rw (.tuple #[])/\Sorted w w' a off R [] L []:=by
 have C:=qH<|
  Au g k s j D R o l a off d c L w n i h m b p f;clear h o i c m b p;go_enter func352,ntmps352;go_wp2_with fail;refine Ut C ?_;rintro t q;have r:=qH<|q;clear q C;go_wp2;go_end0;exact⟨rfl,r⟩
def Lx(a:Fd)(w:AT):
 Cw 375 #[.slice none 0 0,Iq 0,Iq 0,a] w λe w'=>e=Rw (.tuple #[])/\w'=w:=by
 go_enter func375,ntmps375;go_wp2;go_loopw[8] (λi wr=>i=Iq 1/\wr=w) (λi _=>0);.grind
 obtain⟨rfl,rfl⟩:=hrel;go_wp2;go_end0;simp_all
def Aw(a:Fd)(w:AT):
 Cw 369 #[.slice none 0 0,Iq 0,a] w λe w'=>e=Rw (.tuple #[])/\w'=w:=by
 go_enter func369,ntmps369;go_wp2;go_loopw[7,8] (λi j wr=>i=Iq 0/\j=Iq 20/\wr=w) (λi _ _=>0);.grind
 obtain⟨rfl,rfl,rfl⟩:=hrel;go_wp2_with fail;refine Ut (Lx a wr) ?_;rintro b rfl;go_wp2;go_loopw[6] (λi wr=>i=Iq 20/\wr=b) (λi _=>0);.grind
 obtain⟨rfl,rfl⟩:=hrel;go_wp2;go_end0;simp_all
def qk(a:Fd)(w:AT):
 Cw 352 #[.slice none 0 0,a] w λe w'=>e=Rw (.tuple #[])/\w'=w:=by go_enter func352,ntmps352;go_wp2_with fail;refine Ut (Aw a w) ?_;rintro b rfl;go_wp2;go_end0;grind
def gQ(x y:Int):Int:=if x<y then-1 else if y<x then 1 else 0
def pF(x:Int)(w:AT):
 Cw 297 #[Iq x] w λe w'=>e=Rw (.bool false)/\w'=w:=by go_enter func297,ntmps297;go_wp2;go_ret;simp_all
def nf(x y:Int)(w:AT):
 Cw 354 #[Iq x,Iq y] w λe w'=>e=Rw (Iq (gQ x y))/\w'=w:=by
 obtain⟨z,d⟩:=af (gQ x y);have b:=qH<|d;rw[d];clear d;by_cases c:x<y
 .have a:z=-1:=by have:=b.out;unfold gQ at this;rw[if_pos c]at this;exact this.symm
  subst a;go_enter func354,ntmps354;go_wp2_with(refine Ut (pF _ _) ?_;rintro g rfl);try go_wp2
  go_ret;simp_all
 .by_cases f:y<x
  .have a:z=1:=by have:=b.out;unfold gQ at this;rw[if_neg c,if_pos f]at this;exact this.symm
   subst a;go_enter func354,ntmps354;go_wp2_with(refine Ut (pF _ _) ?_;rintro g rfl);go_ret;simp_all
  .have a:z=0:=by have:=b.out;unfold gQ at this;rw[if_neg c,if_neg f]at this;exact this.symm
   subst a;go_enter func354,ntmps354;go_wp2_with(refine Ut (pF _ _) ?_;rintro g rfl);go_ret;simp_all
def gb(d:zzc):Nat->Int->List Int->List Int
 |0,_,Y=>Y
 |c+1,m,Y=>gb d c (m-min m (d[c]?.getD 0)) ((d[c]?.getD 0-min m (d[c]?.getD 0))::Y)
def D5{W}{a off}{d}(h:aO W a off d)i y(hi:i<d.length):aO (W.setCell (aq a (off+i)) (Iq y)) a off (d.set i y):=by
 refine⟨by simpa using h.1,λk b=>?_⟩;rw[xK]at b;simp only[eS];refine⟨?_,(h.2 k b).2⟩;have f:=(h.2 k b).1;by_cases c:k=i;.subst c;rw[nO _ _ _ rn];simp[b]
 .rw[cu _ _ _ _ (λe=>c rn),f,qB (λe=>c e.symm)]
def MX(X:zzc)x y Y:(X++[x]++Y).set X.length y=X++(y::Y):=rn
def tE(d:zzc)(a off D:Nat)(b:Int)(w:AT)(n:Nat)(h:aO w a off d)(M:d.length=n)(L:n<=1099511627776)(hd:∀x∈d,0<=x/\x<=1099511627776)(F:0<=b/\b<=1099511627776):
 Cw 306 #[.slice (some (aq a off)) n D,Iq b] w λe w'=>e=Rw (.tuple #[])/\aO w' a off (gb d n b [])/\w.grownBy w' (some a):=by
 have Q:=qH<|h;have J:=qH<|M;have P:=qH<|hd;have G:=F.1;have H:=F.2;clear h M hd F;go_enter func306,ntmps306;go_wp2;go_loopw[1,4] (λm i wr=>∃(c:Nat) (j q:Int) (Y:zzc),m=Iq j/\i=Iq q/\q<=(c:Int)-1/\(c:Int)-1<=q/\c<=n/\0<=j/\j<=1099511627776/\Hid (gb d c j Y=gb d n b [])/\Hid (c+Y.length=n)/\Hid (aO wr a off (d.take c++Y))/\Hid (w.grownBy wr (some a))) (λ_ i _=>(intOf i+1).toNat);.exact⟨n,b,(n:Int)-1,[],rfl,by go_num,dg,dg,LE,G,H,by show _=_;rfl,by show _=_;rfl,by show aO _ _ _ _;rw[iP,im (by rw[J.out];omega)];exact Q,cT _ _⟩
 obtain⟨c,j,q,Y,rfl,rfl,h1,h2,V,W,X,B,z,g,l⟩:=hrel;match c with
 |0=>have N:¬(0:Int)<=q:=dg;go_wp2;go_end0;exact⟨rfl,by have:=g.out;have h0:=B.out;simp_all[gb],l⟩
 |c+1=>
  have O:(0:Int)<=q:=dg;obtain rfl:q=(c:Int):=dg;obtain⟨x,I⟩:=af (d[c]?.getD 0);have v:c<d.length:=by rw[J.out];omega
  have p:=P x rn;have Z:=p.1;have ze:=p.2;have K:(c:Int)<(n:Int):=dg;have o:=(ia d c v).1;rw[I]at o;have f:=g.out;rw[o]at f;have k:(d.take c).length=c:=by rw[cL];omega
  have R:(d.take c++[x]++Y).length=n:=by have:=z.out;simp only[aN,cL,cV,eI];omega
  have t:(d.take c++[x]++Y)[c]?.getD 0=x:=by
   have:(d.take c++[x]++Y)[(d.take c).length]?.getD 0=x:=by simp[cA]
   rw[k]at this;exact this
  have c0:wr.cell? (aq a (off+c))=some (Iq x):=by rw[(f.2 c dg).1,t]
  have f0:=(f.2 c dg).2;obtain⟨bk,u⟩:=af (min j x);have s:Hid (aO (wr.setCell (aq a (off+c)) (Iq (x-bk))) a off (d.take c++((x-bk)::Y))):=by have:=D5 f c (x-bk) dg;have e:=MX (d.take c) x (x-bk) Y;rw[k]at e;rw[e]at this;exact this
  have r:Hid (gb d c (j-bk) ((x-bk)::Y)=gb d n b []):=by have:=B.out;simp only[gb]at this;rw[I,u]at this;exact this
  have A:Hid (c+((x-bk)::Y).length=n):=qH<|by have:=z.out;simp only[cV];omega
  have C:Hid (w.grownBy (wr.setCell (aq a (off+c)) (Iq (x-bk))) (some a)):=grown_trans l (dI _ _ _ _);have S:bk<=j:=dg;have T:bk<=x:=dg;have U:0<=bk:=dg;have y:bk=j/\j<=x\/bk=x/\x<j:=dg;clear I p o f k R t g l B z u v;rcases y with⟨rfl,E⟩|⟨rfl,E⟩
  .rw[Int.sub_self]at r;go_wp2;go_roundw;.grind
   .simp[intOf]<;>omega
  .rw[Int.sub_self]at r A s C;go_wp2;go_roundw;.grind
   .simp[intOf]<;>omega
section
def ap(f:zzb)(l:zzh):Int:=(l.map f).sum
theorem qn f:ap f []=0:=rfl
theorem bD f j l:ap f (j::l)=f j+ap f l:=by simp[ap]
def jt f l m:ap f (l++m)=ap f l+ap f m:=by simp[ap]
theorem fL f l j:ap f (l++[j])=ap f l+f j:=by simp[ap]
def jW{f}{l m}(h:l.Perm m):ap f l=ap f m:=by
 induction h with
 |nil=>rfl
 |cons x _ c=>grind[bD]
 |swap x y l=>simp only[bD];omega
 |trans _ _ a b=>omega
theorem iJ{f g}{l}(h:∀j∈l,f j<=g j):ap f l<=ap g l:=by
 induction l with
 |nil=>exact ie _
 |cons a l b=>grind[bD]
theorem a_{f g}{l}(h:∀j∈l,f j=g j):ap f l=ap g l:=
 Int.le_antisymm (iJ λj a=>Int.le_of_eq (h j a)) (iJ λj a=>Int.le_of_eq (h j a).symm)
def fu f g l:ap (λj=>f j+g j) l=ap f l+ap g l:=by
 induction l with
 |nil=>rfl
 |cons a l b=>grind[bD]
def dT c f l:ap (λj=>c*f j) l=c*ap f l:=by
 induction l with
 |nil=>simp[ap]
 |cons a l b=>grind[bD]
def cH{f}{l}(h:∀j∈l,0<=f j):0<=ap f l:=by
 induction l with
 |nil=>exact ie _
 |cons a l b=>grind[bD]
def iI{f}{l}{b}(h:∀j∈l,f j<=b):ap f l<=(l.length:Int)*b:=by
 induction l with
 |nil=>simp[ap]
 |cons a l d=>have:=h a At;have:=d λj c=>h j (by simp[c]);rw[bD,cV,Int.natCast_add,Cu];omega
def h_{f}{l}(h:∀j∈l,0<=f j){i}(hi:i∈l):f i<=ap f l:=by
 induction l with
 |nil=>grind
 |cons a l e=>have c:=h a At;have d:0<=ap f l:=cH λj b=>h j (by simp[b]);grind[bD]
def ju{f}{l A}(g:l.Nodup)(k:A.Nodup)(c:∀j∈A,j∈l)(b:∀j∈l,j∉A->f j=0):ap f l=ap f A:=by
 induction A generalizing l with
 |nil=>
  rw[qn];have:=a_ λj e=>b j e At;rw[this];clear this b c g;induction l with
  |nil=>rfl
  |cons a l i=>grind[bD]
 |cons a A i=>have d:=c a At;have h:=List.perm_cons_erase d;rw[jW h,bD,bD];grind
variable{Mn Mx Wt:zzb}
def DU{A B}{i}{L W}(q:∀j,0<=Mx j-Mn j)(l:∀j∈A,0<Wt j/\(Mx j-Mn j)*Wt i<=(Mx i-Mn i)*Wt j)(hi:0<Wt i)(m:∀j∈B,0<Wt j)(o:W=ap Wt (i::B))(e:(Mx i-Mn i)*W<=L*Wt i):
 0<=L-(Mx i-Mn i)/\∀j∈A++[i],(Mx j-Mn j)*(W-Wt i)<=(L-(Mx i-Mn i))*Wt j:=by
 have n:=cH λj a=>Int.le_of_lt (m j a);rw[bD]at o;have f:=q i;have k:(Mx i-Mn i)*Wt i<=(Mx i-Mn i)*W:=Ob dg f;have s:=Oc (io k e) hi;have b:0<=W-Wt i:=dg;have c:(Mx i-Mn i)*(W-Wt i)<=(L-(Mx i-Mn i))*Wt i:=by rw[Int.mul_sub (Mx i-Mn i) W (Wt i),Int.sub_mul L (Mx i-Mn i) (Wt i)];omega
 refine⟨dg,λj a=>?_⟩;rcases jA.1 a with a|a
 .obtain⟨p,d⟩:=l j a;have g:=jC d b;have h:(Mx i-Mn i)*(W-Wt i)*Wt j<=(L-(Mx i-Mn i))*Wt i*Wt j:=jC c dg;have r:(Mx j-Mn j)*(W-Wt i)*Wt i<=(L-(Mx i-Mn i))*Wt j*Wt i:=by rw[fA (Mx j-Mn j),fA (L-(Mx i-Mn i))];refine io g ?_;rw[fA (Mx i-Mn i)];exact h
  simp_all
 grind
def Ej{B}{i}{L W}(hi:0<Wt i)(j:0<W)(g:∀k∈B,0<Wt k/\(Mx i-Mn i)*Wt k<=(Mx k-Mn k)*Wt i)(a:L*Wt i<(Mx i-Mn i)*W):∀k∈i::B,L*Wt k<(Mx k-Mn k)*W:=by
 intro k b;rcases kD.1 b with rfl|b;.exact a
 .obtain⟨e,f⟩:=g k b;have c:=JM a e;have d:(Mx i-Mn i)*Wt k*W<=(Mx k-Mn k)*Wt i*W:=jC f dg;have h:L*Wt k*Wt i<(Mx k-Mn k)*W*Wt i:=by rw[fA L,fA (Mx k-Mn k)];refine nS c ?_;rw[fA (Mx i-Mn i)];exact d
  simp_all
def iB{S}{L W}(c:W=ap Wt S)(b:0<W):0<=L-ap (λj=>L*Wt j/W) S/\L-ap (λj=>L*Wt j/W) S<S.length:=by
 have e:ap (λj=>L*Wt j) S=W*ap (λj=>L*Wt j/W) S+ap (λj=>L*Wt j %W) S:=by rw[<-dT,<-fu];exact a_ λj _=>(Int.mul_ediv_add_emod _ _).symm
 rw[dT,<-c]at e;have f0:0<=ap (λj=>L*Wt j %W) S:=cH λj _=>CJ _ dg;have f1:ap (λj=>L*Wt j %W) S<=(S.length:Int)*(W-1):=iI λj _=>by have:=JN (L*Wt j) b;omega
 have hS:S≠[]:=by intro h;rw[h,qn]at c;omega
 have d:(0:Int)<S.length:=by have:=iQ.2 hS;omega
 obtain⟨q,f⟩:=af (ap (λj=>L*Wt j/W) S);rw[f]at e|-;have g:W*(L-q)=ap (λj=>L*Wt j %W) S:=by rw[Int.mul_sub,gy W L];omega
 refine⟨?_,?_⟩;.exact Int.le_of_mul_le_mul_left dg b
 .refine Int.lt_of_mul_lt_mul_left (a:=W) ?_ dg;grind
structure bK(n:Nat)(Mn Mx Wt:zzb)(r:Int)(a:zzb)(A S:zzh)(L W:Int)(m:Nat):Prop where
 perm:(A++S).Perm ((List.range n).filter λj=>decide (0<Wt j))
 left:L=r-ap Mn (List.range n)-ap (λj=>Mx j-Mn j) A
 pos:0<=L
 weight:W=ap Wt S
 full:∀j∈A,(Mx j-Mn j)*W<=L*Wt j
 open_:∀j∈S,L*Wt j<(Mx j-Mn j)*W
 miss:S≠[]->(m:Int)=L-ap (λj=>L*Wt j/W) S
 none_:S=[]->m=0
 sorted:S.Pairwise λi k=>L*Wt k %W<L*Wt i %W\/(L*Wt i %W=L*Wt k %W/\i<k)
 is:∀j,j<n->a j=if j∈A then Mx j else if j∈S then Mn j+L*Wt j/W+(if j∈S.take m then 1 else 0)else Mn j
def bK.facts{n}{r}{a}{A S}{L W}{m}(h:bK n Mn Mx Wt r a A S L W m):
 A.Nodup/\S.Nodup/\(∀j∈A,j∉S)/\(∀j∈A,j<n/\0<Wt j)/\(∀j∈S,j<n/\0<Wt j)/\(∀j,j<n->0<Wt j->j∈A\/j∈S):=by
 have b:((List.range n).filter λj=>decide (0<Wt j)).Nodup:=sN.filter _;have c:=h.perm.nodup_iff.2 b;rw[JG]at c;have d:∀j,j∈A++S↔j<n/\0<Wt j:=λj=>by rw[h.perm.mem_iff];simp
 grind
def DE{x y W:Int}(a:0<W)(h:x<y*W):x/W+1<=y:=by have:=Int.ediv_lt_of_lt_mul a h;omega
def bK.bds{n}{r}{a}{A S}{L W}{m}(h:bK n Mn Mx Wt r a A S L W m)(l:∀j,Mn j<=Mx j)(d:∀j,0<=Wt j):
 ∀j,j<n->Mn j<=a j/\a j<=Mx j/\(Wt j=0->a j=Mn j):=by
 obtain⟨q,hS,hd,o,f,e⟩:=h.facts;intro j i;rw[h.is j i];have:=l j;have:=d j;by_cases g:j∈A;.grind
 .rw[if_neg g];by_cases c:j∈S
  .rw[if_pos c];have b:0<W:=by rw[h.weight];exact nS (f j c).2 (h_ (λk _=>d k) c)
   have:=DE b (h.open_ j c);have p:0<=L*Wt j/W:=CQ (ip h.pos (d j)) dg;grind
  grind
theorem xq S(hS:S.Nodup)m(c:m<=S.length):ap (λj=>if j∈S.take m then 1 else 0) S=m:=by
 have e:ap (λj=>if j∈S.take m then(1:Int)else 0) S=ap (λj=>if j∈S.take m then(1:Int)else 0) (S.take m):=
  ju hS (hS.sublist (List.take_sublist _ _)) (λj b=>nU b) (λj _ b=>if_neg b);rw[e,a_ (g:=λ_=>1) (λj b=>if_pos b)];have:∀l:List Nat,ap (λ_=>(1:Int)) l=l.length:=by
  intro l;induction l with
  |nil=>rfl
  |cons a l d=>grind[bD]
 grind
def bK.sum{n}{r}{a}{A S}{L W}{m}(h:bK n Mn Mx Wt r a A S L W m)(v:∀j,0<=Wt j):
 (S≠[]->ap a (List.range n)=r)/\(S=[]->ap a (List.range n)=ap (λj=>if 0<Wt j then Mx j else Mn j) (List.range n)/\L=r-ap a (List.range n)):=by
 obtain⟨q,hS,hd,w,p,f⟩:=h.facts;have g:(List.range n).Nodup:=sN;have e:ap a (List.range n)=ap Mn (List.range n)+ap (λj=>(if j∈A then Mx j-Mn j else 0)+(if j∈S then L*Wt j/W+(if j∈S.take m then 1 else 0)else 0)) (List.range n):=by
  rw[<-fu];refine a_ λj b=>?_;rw[h.is j rn];by_cases y:j∈A;.grind
  .grind
 have l:ap (λj=>if j∈A then Mx j-Mn j else 0) (List.range n)=ap (λj=>Mx j-Mn j) A:=by rw[ju (A:=A) g q (λj b=>rn) (λj _ b=>if_neg b)];exact a_ λj b=>if_pos b
 have o:ap (λj=>if j∈S then L*Wt j/W+(if j∈S.take m then 1 else 0)else 0) (List.range n)=ap (λj=>L*Wt j/W) S+ap (λj=>if j∈S.take m then 1 else 0) S:=by rw[ju (A:=S) g hS (λj b=>rn) (λj _ b=>if_neg b),<-fu];exact a_ λj b=>if_pos b
 rw[fu,l,o]at e;have z:=h.left;refine⟨λc=>?_,λt=>?_⟩
 .have d:0<W:=by obtain⟨x,i⟩:=xL S c;rw[h.weight];exact nS (p x i).2 (h_ (λk _=>v k) i)
  have u:=h.miss c;have s:=iB (L:=L) h.weight d;rw[<-u]at s;grind[xq]
 .subst t;simp only[qn]at e;refine⟨?_,dg⟩;refine a_ λj b=>?_;rw[h.is j (by simpa using b)];grind
def bK.tiles{n}{r}{a}{A S}{L W}{m}(h:bK n Mn Mx Wt r a A S L W m)(e:∀j,Mn j<=Mx j)(b:∀j,0<=Wt j):
 ap a (List.range n)=min r (ap (λj=>if 0<Wt j then Mx j else Mn j) (List.range n)):=by
 have d:=h.sum b;have f:=h.bds e b;by_cases c:S=[];.have:=d.2 c;have:=h.pos;omega
 grind[ap,iJ]
def va d(hd:∀i,i<d.length->0<=d[i]?.getD 0):∀  c   m   Y,c<=d.length->0<=m->m<=(d.take c).sum->
 ∃X,gb d c m Y=X++Y/\X.length=c/\(∀i,i<c->0<=X[i]?.getD 0/\X[i]?.getD 0<=d[i]?.getD 0)/\X.sum=(d.take c).sum-m/\(∀i k,i<k->k<c->X[i]?.getD 0<d[i]?.getD 0->X[k]?.getD 0=0)/\(m=0->∀i,i<c->X[i]?.getD 0=d[i]?.getD 0)
 |0,m,Y,_,f,h=>⟨[],rfl,rfl,λi hi=>dg,rn,λi k _ b=>dg,λ_ i hi=>dg⟩
 |c+1,m,Y,s,f,h=>by
  have n:=hd c dg;have l:(d.take (c+1)).sum=(d.take c).sum+d[c]?.getD 0:=by rw[gx dg,da dg,JO];simp only[List.sum_cons,List.sum_nil,Cr];omega
  have j:0<=(d.take c).sum:=by
   have:∀k,k<=d.length->0<=(d.take k).sum:=by
    intro k b;induction k with
    |zero=>simp
    |succ k o=>have p:=o dg;have q:=hd k dg;rw[gx dg];grind
   exact this c dg
  obtain⟨x,a⟩:=af (d[c]?.getD 0);rw[a]at n l;obtain⟨X,e,g,r,t,b,u⟩:=va d hd c (m-min m x) ((x-min m x)::Y) dg dg dg;refine⟨X++[x-min m x],by grind[gb],by simp[g],?_,?_,?_,?_⟩;.grind
  all_goals grind
end
def GH(F:zzc)(g b c s:Nat)(W:AT)(t:W.cell? (aq g 0)=some (.slice (some (aq b c)) F.length s))(hF:∀j,j<F.length->W.cell? (aq b (c+j))=some (Iq (F[j]?.getD 0)))(i k:Nat)(hi:i<F.length)(l:k<F.length)(a:F.length<=1099511627776):
 Cw 355 #[Iq i,Iq k,Pq g] W λe r=>e=Rw (Iq (gQ (F[k]?.getD 0) (F[i]?.getD 0)))/\∃q os,r=grow (W.drewN q) os:=by
 obtain⟨n,o⟩:=af F.length;obtain⟨x,d⟩:=af (F[i]?.getD 0);obtain⟨y,hy⟩:=af (F[k]?.getD 0);have A:W.cell? (aq b (c+i))=some (Iq x):=by rw[hF i hi,d]
 have c1:W.cell? (aq b (c+k))=some (Iq y):=by rw[hF k l,hy]
 have w:prog.follows .mixedOrders=true:=pt;rw[o]at t hi l a;rw[d,hy];have u:(i:Int)<(n:Int):=dg;have v:(k:Int)<(n:Int):=dg;obtain⟨z,f⟩:=af (gQ y x);have p:=qH<|λm=>by have:=nf y x (W.drewN m);rw[f]at this;exact this
 rw[f];clear hF o d hy f;go_enter func355,ntmps355;go_wp2_with fail;go_quiet(first|(go_at_call 354;exact(p _).mono (λe w' h=>⟨h.1,_,h.2⟩)));go_wp2;go_ret;exact⟨rfl,_,#[],(grow_empty _).symm⟩
theorem Jo(W:AT)a b:∃q os,((W.alloc a).alloc b).drew=grow (W.drewN q) os:=
 ⟨1,#[a]++#[b],by rw[alloc_eq_grow,alloc_eq_grow,grow_grow];rfl⟩
def Gz(n o b d wc:Nat)(W:AT)(P:W.cell? (aq o 0)=some (.slice (some (aq b d)) n wc))(i k:Nat)(f g h j l m:Int)(E:W.cell? (aq b (d+i*3))=some (Iq f))(F:W.cell? (aq b (d+i*3+1))=some (Iq g))(G:W.cell? (aq b (d+i*3+2))=some (Iq h))(H:W.cell? (aq b (d+k*3))=some (Iq j))(I:W.cell? (aq b (d+k*3+1))=some (Iq l))(J:W.cell? (aq b (d+k*3+2))=some (Iq m))(c:0<=g-f/\g-f<=1073741824/\0<=h/\h<=1073741824)(a:0<=l-j/\l-j<=1073741824/\0<=m/\m<=1073741824)(hi:i<n)(Q:k<n)(y:n<=1099511627776)(K:o<W.heap.size)(O:b<W.heap.size):
 Cw 353 #[Iq i,Iq k,Pq o] W λe D=>e=Rw (Iq (gQ ((g-f)*m) ((l-j)*h)))/\∃q os,D=grow (W.drewN q) os:=by
 have N:prog.follows .mixedOrders=true:=pt;have L:(i:Int)<(n:Int):=dg;have M:(k:Int)<(n:Int):=dg;obtain⟨r,t⟩:=af (g-f);obtain⟨s,u⟩:=af (l-j);rw[t]at c|-;rw[u]at a|-;obtain⟨p,A⟩:=af (r*m);obtain⟨q,B⟩:=af (s*h);have v:0<=p/\p<=1152921504606846976:=by rw[<-A];refine⟨ip c.1 a.2.2.1,?_⟩;exact io (kI c.2.1 a.2.2.2 a.2.2.1 dg) (by decide)
 have w:0<=q/\q<=1152921504606846976:=by rw[<-B];refine⟨ip a.1 c.2.2.1,?_⟩;exact io (kI a.2.1 c.2.2.2 c.2.2.1 dg) (by decide)
 have R:IntKind.i64.wrap r=r:=IntWalk.i64_in _ ⟨dg,dg⟩;have S:IntKind.i64.wrap s=s:=IntWalk.i64_in _ ⟨dg,dg⟩;have w3:IntKind.i64.wrap p=p:=IntWalk.i64_in _ ⟨dg,dg⟩;have T:IntKind.i64.wrap q=q:=IntWalk.i64_in _ ⟨dg,dg⟩;obtain⟨z,x⟩:=af (gQ p q);have C:=qH<|λw'=>by have:=nf p q w';rw[x]at this;exact this
 rw[A,B,x];clear x v w c a;go_enter func353,ntmps353;go_wp2_with fail;go_big_region;all_goals(go_wp2_with(go_at_call 354;refine Ut (C _) ?_;rintro U rfl))
 all_goals go_ret
 all_goals simp_all[Jo]
def oD x y:gQ x y<0↔x<y:=by grind[gQ]
def Bc x y:-1<=gQ x y/\gQ x y<=1:=by grind[gQ]
def ry(F:Int->Int)(i k:Int):Prop:=F k<F i\/(F i=F k/\i<k)
def IF F D:Ord (λi k=>gQ (F k) (F i)) D (ry F)where
 lt:=λx _ y _ h=>Or.inl ((oD _ _).1 h)
 ge:=λx _ y _ a h=>by
  have d:¬F x<F y:=λc=>h ((oD _ _).2 c);by_cases e:F x=F y;.exact Or.inr ⟨e,a⟩
  .exact Or.inl dg
 trans:=λx _ y _ z _ d c=>by grind[ry]
 bd:=λx _ y _=>Bc _ _
def uA(M V:Int->Int)(i k:Int):Prop:=M i*V k<M k*V i\/(M i*V k=M k*V i/\i<k)
def Gi{a b c u v w:Int}(hu:0<u)(i:0<v)(j:0<w)(f:a*v<=b*u)(g:b*w<=c*v):a*w<=c*u:=by
 have d:a*v*w<=b*u*w:=jC f dg;have e:b*w*u<=c*v*u:=jC g dg;have h:a*w*v<=c*u*v:=by rw[fA a w v,fA c u v];refine io d ?_;rw[fA b u w];exact e
 simp_all
def Gj{a b c u v w:Int}(hu:0<u)(k:0<v)(h:0<w)(f:a*v<=b*u)(g:b*w<=c*v)(d:a*v<b*u\/b*w<c*v):a*w<c*u:=by
 have e:a*v*w<=b*u*w:=jC f dg;have i:b*w*u<=c*v*u:=jC g dg;have j:a*w*v<c*u*v:=by
  rw[fA a w v,fA c u v];rcases d with d|d;.refine nS (JM d h) ?_;grind
  .refine Int.lt_of_le_of_lt e ?_;rw[fA b u w];simp_all
 simp_all
def IE M V D(a:∀i∈D,0<V i):Ord (λi k=>gQ (M i*V k) (M k*V i)) D (uA M V)where
 lt:=λx _ y _ h=>Or.inl ((oD _ _).1 h)
 ge:=λx _ y _ f h=>by
  have c:¬M y*V x<M x*V y:=λb=>h ((oD _ _).2 b);by_cases e:M x*V y=M y*V x;.exact Or.inr ⟨e,f⟩
  .exact Or.inl dg
 trans:=λx j y hy z l c b=>by
  have m:M x*V y<=M y*V x:=by rcases c with h|⟨h,_⟩<;>omega
  have n:M y*V z<=M z*V y:=by rcases b with h|⟨h,_⟩<;>omega
  by_cases d:M x*V y<M y*V x\/M y*V z<M z*V y;.exact Or.inl (Gj (a x j) (a y hy) (a z l) m n d)
  .have o:¬M x*V y<M y*V x:=λh=>d (Or.inl h);have p:¬M y*V z<M z*V y:=λh=>d (Or.inr h);have q:x<y:=by rcases c with h|⟨_,h⟩;exact(o h).elim;exact h
   have r:y<z:=by rcases b with h|⟨_,h⟩;exact(p h).elim;exact h
   have c1:=Gi (a x j) (a y hy) (a z l) m n;by_cases e:M x*V z=M z*V x;.exact Or.inr ⟨e,dg⟩
   .exact Or.inl dg
 bd:=λx _ y _=>Bc _ _
def Du(F:zzc)c d e g a f(m:f.cell? (aq c 0)=some (.slice (some (aq d e)) F.length g))(hF:∀j,j<F.length->f.cell? (aq d (e+j))=some (Iq (F[j]?.getD 0)))(D:zzc)(h:∀x∈D,∃j:Nat,x=j/\j<F.length)(b:F.length<=1099511627776)(q:c≠a)(r:d≠a):
 xZ 355 #[Pq c] (λi k=>gQ (F[k.toNat]?.getD 0) (F[i.toNat]?.getD 0)) D f a:=by intro W l x p y hy;obtain⟨i,rfl,hi⟩:=h x p;obtain⟨k,rfl,o⟩:=h y hy;exact GH F c d e g W (l.cell m rn) (λj n=>l.cell (hF j n) rn) i k hi o b
def Dt n f d l wc b(Mn Mx Wt:zzb)c(p:c.cell? (aq f 0)=some (.slice (some (aq d l)) n wc))(e:∀j,j<n->c.cell? (aq d (l+j*3))=some (Iq (Mn j))/\c.cell? (aq d (l+j*3+1))=some (Iq (Mx j))/\c.cell? (aq d (l+j*3+2))=some (Iq (Wt j)))(o:∀j,j<n->0<=Mx j-Mn j/\Mx j-Mn j<=1073741824/\0<=Wt j/\Wt j<=1073741824)(D:zzc)(m:∀x∈D,∃j:Nat,x=j/\j<n)(h:n<=1099511627776)(t:f≠b)(u:d≠b)(r:f<c.heap.size)(s:d<c.heap.size):
 xZ 353 #[Pq f] (λi k=>gQ ((Mx i.toNat-Mn i.toNat)*Wt k.toNat) ((Mx k.toNat-Mn k.toNat)*Wt i.toNat)) D c b:=by intro W a x q y hy;obtain⟨i,rfl,hi⟩:=m x q;obtain⟨k,rfl,g⟩:=m y hy;exact Gz n f d l wc W (a.cell p rn) i k (Mn i) (Mx i) (Wt i) (Mn k) (Mx k) (Wt k) (a.cell (e i hi).1 rn) (a.cell (e i hi).2.1 rn) (a.cell (e i hi).2.2 rn) (a.cell (e k g).1 rn) (a.cell (e k g).2.1 rn) (a.cell (e k g).2.2 rn) (o i hi) (o k g) hi g h (zz006 r a.size) (zz006 s a.size)
def PF:(prog.info? 3).map (λi=>(i.zero,i.size,i.bytes))=some (some (Iq 0),1,8):=pt
def cQ(l:zzh):List Int:=l.map fun(j:Nat)=>(j:Int)
theorem dF l:(cQ l).length=l.length:=by simp[cQ]
def IA l m:cQ (l++m)=cQ l++cQ m:=by simp[cQ]
theorem lO{l}{x}(h:x∈cQ l):∃j:Nat,x=j/\j∈l:=by obtain⟨j,a,rfl⟩:=kJ.1 h;grind
def wE{l}(h:l.Pairwise (·<·)):(cQ l).Pairwise (·<·):=by grind[cQ]
def mM{l}{B}(h:B.Perm (cQ l)):∃Q,B=cQ Q/\Q.Perm l:=by
 refine⟨B.map Int.toNat,?_,?_⟩
 .have:∀x∈B,((x.toNat:Nat):Int)=x:=λx a=>by grind[lO]
  unfold cQ;rw[List.map_map];conv=>lhs;rw[<-List.map_id B]
  exact List.map_congr_left λx a=>(this x a).symm
 .have:=h.map Int.toNat;refine this.trans ?_;unfold cQ;rw[List.map_map];have:(Int.toNat∘fun(j:Nat)=>(j:Int))=id:=by funext j;simp
  simp_all
def cJ(Wt:zzb)(k:Nat):List Nat:=(List.range k).filter λj=>decide (0<Wt j)
def DX{Wt}{k}(h:0<Wt k):cJ Wt (k+1)=cJ Wt k++[k]:=by unfold cJ;rw[sO,List.filter_append];simp[h]
def GN{Wt}{k}(h:¬0<Wt k):cJ Wt (k+1)=cJ Wt k:=by unfold cJ;rw[sO,List.filter_append];simp[h]
def DW Wt k:(cJ Wt k).Pairwise (·<·):=List.pairwise_lt_range.filter _
theorem mE Wt k:(cJ Wt k).length<=k:=by have:=List.length_filter_le (λj=>decide (0<Wt j)) (List.range k);rw[JP]at this;exact this
def mF{Wt}{k j}(h:j∈cJ Wt k):j<k/\0<Wt j:=by grind[cJ]
theorem GZ{w}{B n g c}{b}(h:w.ownsRow B 3 1 (Sq g n c) n (b.map (Value.int .i64))):aO w g 0 b:=by
 have s:b.length=n:=by have:=h.1;simpa using this
 rcases h.2 with⟨a,_⟩|⟨q,i,d,a,r,k,p,l,m,f⟩;.simp at a
 .simp only[sK,CV,Addr.mk.injEq,and_true,true_and]at a;obtain⟨rfl,rfl⟩:=a;refine⟨(aj.1 k).1,λj o=>⟨?_,frozen_of_row w g _ d 3 k⟩⟩;have:=h.cells (g:=g) rfl j (Iq (b[j]?.getD 0)) (by simp[o]);have e:((aq g 0):Addr).add j=(aq g (0+j)):=by unfold Addr.add;split<;>simp_all
  rwa[e]at this
def Qk(B:Nat)(W:AT)(v:Fd)(Q:zzh):Prop:=(Q=[]/\v=.slice none 0 0)\/(Q≠[]/\∃g cap,v=Sq g Q.length cap/\B<=g/\Q.length<=cap/\cap<=maxLen/\aO W g 0 (cQ Q))
def IG{w}{B}{v}{Q}(h:w.ownsRow B 3 1 v (cQ Q).length ((cQ Q).map (Value.int .i64)))(c:Q≠[]):∃g a,v=Sq g Q.length a/\B<=g/\Q.length<=a/\a<=maxLen/\aO w g 0 (cQ Q):=by have d:=h;rcases h.2 with⟨rfl,e⟩|⟨g,a,b,rfl,j,k,f,i,_⟩;all_goals grind[dF,GZ]
def Qm(Mn Mx Wt:zzb)(i k:Nat):Prop:=(Mx i-Mn i)*Wt k<=(Mx k-Mn k)*Wt i
def El(n f off m:Nat)(Mn Mx Wt:zzb)(w:AT)(h:fB w f off n Mn Mx Wt)(hR:∀j,0<=Mx j-Mn j/\Mx j-Mn j<=1073741824/\0<=Wt j/\Wt j<=1073741824)(hn:n<=1073741824):
 Cw 336 #[.slice (some (aq f off)) n m] w λe w'=>∃v Q,e=Rw v/\Qk w.heap.size w' v Q/\Q.Perm (cJ Wt n)/\Q.Pairwise (Qm Mn Mx Wt)/\Bq w w':=by
 obtain⟨i0,hi,zi,zj,zk⟩:=info_parts PF;have HW:=qH<|h;have HR:=qH<|hR;have zm:=h.1;clear h hR;go_enter func336,ntmps336;go_wp2;obtain⟨D,l⟩:=af (w.alloc (.cells #[.slice (some (aq f off)) n m] 287));rw[l];have zh:D.heap.size=w.heap.size+1:=by rw[<-l];simp
 have y:Bq w D:=by rw[<-l];exact No
 have J:D.cell? (aq w.heap.size 0)=some (.slice (some (aq f off)) n m):=by rw[<-l,World.cell?_alloc_at _ _ _ _ rfl];rfl
 clear l;go_loopw[3,8] (λv i wr=>∃k:Nat,i=Iq k/\k<=n/\wr.ownsRow D.heap.size 3 1 v (cQ (cJ Wt k)).length ((cQ (cJ Wt k)).map (Value.int .i64))/\Bq D wr/\Hid (cJ Wt k=[]->v=.slice none 0 0)) (λ_ i _=>n-(intOf i).toNat);.exact⟨0,rfl,LT,gw _ _ _ _,Ok,λ_=>rfl⟩
 obtain⟨k,rfl,hk,a,b,o⟩:=hrel;by_cases Z:k<n
 .have zn:(k:Int)<(n:Int):=dg;have c:=(HW.below y).below b;have hc:=c.2 k Z;obtain⟨a1,G⟩:=af (Mn k);obtain⟨a2,H⟩:=af (Mx k);obtain⟨a3,t⟩:=af (Wt k);rw[G,H,t]at hc;have hz:=c.1;have zl:=b.size;obtain⟨zo,zq,zr⟩:=hc;have E:=qH<|t;have zw:=mE Wt k;have ze:=dF (cJ Wt k);clear c G H t;by_cases s:0<a3
  .have F:Hid (cJ Wt (k+1)=cJ Wt k++[k]):=DX (by rw[E.out];exact s);go_wp2_with(at_builtin;refine wpList_append_own _ rfl _ _ 26 rfl D.heap.size 3 i0 (Iq 0) 1 8 underlying26 hi zi zj zk rfl (by decide) _ _ _ rfl ((a.alloc _).alloc _) _ 1 1 [Iq (k:Int)] rfl rfl ?c1 ?c2 ?c3 ?c4 ?c5 ?_);case c1=>intro j u L;have:=cell_one_new (wr.alloc (.cells #[Iq a1,Iq a2,Iq a3] 400)) (Iq (k:Int)) 3 j u L;simp_all
   case c2=>intro u hu;simp at hu;subst hu;rfl
   case c3=>unfold maxLen;omega
   case c4=>omega
   case c5=>simp;omega
   intro v' w1 z hg _;have d:=λq C=>(a.lt q C).1;have W:=((b.alloc dg _).alloc (by simp;omega) _).grown hg (by simp;omega) (λq C=>rn);clear hg d a b;go_wp2;go_roundw;.refine⟨k+1,by go_num,dg,?_,W,λe=>by rw[F.out]at e;simp at e⟩;rw[zh,F.out,IA,aN,mi,ze];exact z
   .simp[intOf];omega
  .have F:Hid (cJ Wt (k+1)=cJ Wt k):=GN (by rw[E.out];exact s);go_wp2;go_roundw;.refine⟨k+1,by go_num,dg,?_,b.alloc dg _,λe=>o (by rw[F.out]at e;exact e)⟩;rw[F.out];exact a.alloc _
   .simp[intOf];omega
 .have zv:¬(k:Int)<(n:Int):=dg;obtain rfl:k=n:=dg;have I:=y.trans (b.mono dg);have c:=(HW.below y).below b;have zl:=b.size;by_cases K:cJ Wt k=[];.rw[K]at a;have hv:=o K;subst hv;clear c a;go_wp2_with fail;refine Ut (qk _ _) ?_;rintro B rfl;go_wp2;go_ret;exact⟨_,[],rfl,.inl ⟨rfl,rfl⟩,by rw[K],List.Pairwise.nil,I⟩
  .obtain⟨g,P,rfl,zt,zu,X,d⟩:=IG a K;have HS:Hid (Cw 352 #[Sq g (cJ Wt k).length P,.func (.func 353) #[] #[Pq w.heap.size]] wr λe w'=>e=Rw (.tuple #[])/\Sorted wr w' g 0 (uA (λi=>Mx i.toNat-Mn i.toNat) (λi=>Wt i.toNat)) [] (cQ (cJ Wt k)) []):=by
    refine jr 353 #[Pq w.heap.size] (enters_of func353 pt rfl) (λi k=>gQ ((Mx i.toNat-Mn i.toNat)*Wt k.toNat) ((Mx k.toNat-Mn k.toNat)*Wt i.toNat)) (cQ (cJ Wt k)) (uA (λi=>Mx i.toNat-Mn i.toNat) (λi=>Wt i.toNat)) (IE _ _ _ ?_) wr g 0 P ?_ (cQ (cJ Wt k)) wr (cJ Wt k).length (cT _ _) d (λx O=>O) (wE (DW Wt k)) (dF _) (by grind[mE]);.intro x O;obtain⟨j,rfl,L⟩:=lO O;have:=(mF L).2;grind
    .refine Dt k w.heap.size f off m g Mn Mx Wt wr ?_ c.2 (λj _=>HR j) _ ?_ dg dg dg dg c.1;.exact(b.cell (p:=(aq w.heap.size 0)) rn).trans J
     .intro x O;obtain⟨j,rfl,L⟩:=lO O;exact⟨j,rfl,(mF L).1⟩
   have r:∀B,Sorted wr B g 0 (uA (λi=>Mx i.toNat-Mn i.toNat) (λi=>Wt i.toNat)) [] (cQ (cJ Wt k)) []->∃Q,Q.length=(cJ Wt k).length/\Qk w.heap.size B (Sq g (cJ Wt k).length P) Q/\Q.Perm (cJ Wt k)/\Q.Pairwise (Qm Mn Mx Wt)/\Bq w B:=by
    rintro B ⟨⟨M,hp,A,zg⟩,Y⟩;obtain⟨Q,rfl,C⟩:=mM hp;have N:=C.length_eq;refine⟨Q,N,.inr ⟨λe=>K rn,g,P,by rw[N],dg,dg,X,by simpa using zg⟩,C,?_,?_⟩;.unfold cQ at A;rw[JQ]at A;refine A.imp fun{i k} h=>?_;grind[uA,Qm]
    .exact I.grown Y dg (λq C=>rn)
   have HF:=qH<|r;clear r c a d;go_wp2_with fail;refine Ut HS ?_;rintro B hS;obtain⟨Q,R,S,T,U,V⟩:=HF B hS;clear hS R;go_wp2;go_ret;exact⟨_,Q,rfl,S,T,U,V⟩
def ox{P}{l}{o}{a}{w}{K}{Q}{E}(O:o.guard=none)s x t(y:o.op=Op.call {callee:=Callee.builtin Builtin.append,args:=#[s,x],argTypes:=#[t,t]})d e i z size bytes(D:P.underlying t=some (.slice e))(F:P.info? e=some i)(G:i.zero=some z)(H:i.size=size)(I:i.bytes=bytes)(J:z.cells.size=size)(L:0<size)v n f(S:a.eval s=v)(h:w.ownsRow d e size v n f)q m c b(U:a.eval x=.slice (some q) m c)(R:b.length=m*size)(N:∀j u,b[j]?=some u->w.cell? (q.add j)=some u)(r:∀u∈b,u.oneCell'=true)(A:n+m<=maxLen)(B:(n+m)*bytes<=140737488355328)(C:d<=w.heap.size)(M:∀p w',w'.ownsRow d e size p (n+m) (f++b)->w.grownBy w' v.ownBlock->K (a.put o.dst p) w'):
 if Region.wanted o (yielded l a.tmps)=true then Oper.wp P o a w K Q else E:=by
 have T:Region.wanted o (yielded l a.tmps)=true:=by simp[Region.wanted,O]
 rw[if_pos T];obtain⟨p,w',k,V,W,_⟩:=run_append_own (P:=P) w d t o.type e i z size bytes D F G H I J L v n f h q m c b R N r A B C;unfold Oper.wp;simp[execOp,y,resolve,invoke,builtin,S,U,k,Result.andThen];exact M p w' V W
