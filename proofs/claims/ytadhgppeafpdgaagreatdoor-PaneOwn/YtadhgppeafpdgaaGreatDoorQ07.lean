import Derived.Test.YtadhgppeafpdgaaGreatDoorQ06
import Derived.Shelf.Abstract
import Derived.Shelf.SlSortCmp.QuietGrown
set_option linter.all false
set_option maxRecDepth 100000
set_option maxHeartbeats 16000000
namespace Go.Proofs.YtadhgppeafpdgaaGreatDoor
open Go.RowKit Go.Sort Go.Proofs.Tryz
def Et(g:Nat)(lb:Array Value)(cf:Int->Int->Int)(D:List Int)(w0:World)(blk:Nat):Prop:=
 ∀W,w0.grownBy W (some blk)->∀x∈D,∀y∈D,Cw g (#[Iq x,Iq y]++lb) W fun e W'=>e=Rw (Iq (cf x y))/\∃q os,W'=grow (W.drewN q) os
theorem kp  W   q   os  :Bt W (grow (W.drewN q) os):=
 ⟨rfl,rfl,rfl,by simp_all,fun k hk=>by show(W.heap++os)[k]?=_;grind⟩
theorem Et.ok{g}{lb}{cf}{D}{w0}{blk}(h:Et g lb cf D w0 blk):AE g lb cf D w0 blk:=
 fun W hW x hx y hy=>(h W hW x hx y hy).mono fun e W' ⟨he,q,os,hq⟩=>⟨he,by grind[kp]⟩
theorem Ua(M:List Int):M=[]\/∃M' y,M=M'++[y]:=by rcases List.eq_nil_or_concat M with h|⟨M',y,h⟩;all_goals grind
theorem O8(A M1 M2:List Int)  k  (hk:k<A.length) (h:(M1++M2).Perm (A.take k)):(M1++[A[k]?.getD 0]++M2).Perm (A.take (k+1)):=by grind[j']
theorem O7{R:Int->Int->Prop}  M1 M2   x  (h:(M1++M2).Pairwise R) (h1:∀y∈M1,R y x) (h2:∀y∈M2,R x y):(M1++[x]++M2).Pairwise R:=by grind
def Sorted(w w':World)(blk off:Nat)(R:Int->Int->Prop)(P A S:List Int):Prop:=
 (∃M:List Int,M.Perm A/\M.Pairwise R/\aN w' blk off (P++M++S))/\w.grownBy w' (some blk)
theorem TZ(g:Nat)(lb:Array Value)(eg:∀args w,(callFunc g args).run prog w=.ok (.enter g args) w)(cf:Int->Int->Int)(D:List Int)(R:Int->Int->Prop)(hO:Ord cf D R)(w0:World)(blk off cap:Nat)(hcmp:Et g lb cf D w0 blk)(P A S:List Int)(w:World)(n a b:Nat)(hw0:w0.grownBy w (some blk))(h:aN w blk off (P++A++S))(hAD:∀x∈A,x∈D)(hasc:A.Pairwise (·<·))(hn:(P++A++S).length=n)(aO:n<=1099511627776)(ha:P.length=a)(hb:P.length+A.length=b):
 Cw 288 #[.slice (some (aq blk off)) n cap,Iq a,Iq b,.func (.func g) #[] lb] w fun e w'=>e=Rw (.tuple #[])/\Sorted w w' blk off R P A S:=by
 have HR:=qH<|h;have HO:=qH<|hO;have LM:=qH<|hw0;have VC:=qH<|hcmp;have yA:=qH<|hAD;have Zv:=qH<|hasc;have sV:prog.follows .mixedOrders=true:=by kernel_rfl
 have Ho:b<=n:=by rw[<-hb,<-hn];simp only[aI];omega
 have hb1:b<=a+A.length:=by omega
 have HN:Hid (P.length+A.length+S.length=n):=by show _=_;rw[<-hn];simp only[aI]
 have HA:=qH<|ha;go_enter func288,ntmps288;go_wp2;go_loopw[8] (fun i wr=>∃(u k:Nat) (M:List Int),i=Iq u/\a+k<=u/\u<=a+k/\1<=k/\(k<=A.length\/k=1)/\Hid (M.Perm (A.take k))/\Hid (M.Pairwise R)/\Hid (aN wr blk off (P++M++A.drop k++S))/\Hid (w.grownBy wr (some blk))) (fun i _=>b+2-(intOf i).toNat);case atStart=>
  refine⟨a+1,1,A.take 1,by go_num,by omega,by omega,by omega,Or.inr rfl,QZ _,?_,?_,dl _ _⟩;·show List.Pairwise R _;match A with
   |[]=>simp_all
   |x::l=>grind
  ·show aN _ _ _ _;have:=HR.out;rw[bY P,gy];omega
 case round=>
  obtain⟨u,k,M,rfl,Hz,OS,El,E_,HM,HMP,hrow,fd⟩:=hrel;by_cases hlt:k<A.length
  ·have aR:(u:Int)<(b:Int):=by omega
   obtain⟨x,hx⟩:=af (A[k]?.getD 0);have HX:=qH<|hx;have Ry:Hid (x∈D):=by show x∈D;rw[<-hx];exact yA _ (eR hlt)
   have Sp:Hid (M.length=k):=by show _=_;rw[HM.length_eq,bU];omega
   have VG:Hid (∀y∈M,y∈D/\y<x):=by intro y hy;obtain⟨t,ht,OQ,e⟩:=jr (HM.mem_iff.1 hy);rw[<-e,<-hx];exact⟨yA _ (eR OQ),kE Zv ht hlt⟩
   have ij:Hid (aN wr blk off (P++M++[x]++[]++(A.drop (k+1)++S))):=by have:=hrow.out;rw[(j' A k hlt).2,hx]at this;show aN _ _ _ _;simpa[bY]using this
   go_wp2;go_loopw[9] (fun j wr=>∃(v:Nat) (M1 M2:List Int),j=Iq v/\a+M1.length<=v/\v<=a+M1.length/\M1.length<=k/\Hid (M=M1++M2)/\Hid (∀y∈M2,R x y)/\Hid (aN wr blk off (P++M1++[x]++M2++(A.drop (k+1)++S)))/\Hid (w.grownBy wr (some blk))) (fun j _=>(intOf j).toNat);case atStart=>exact⟨u,M,[],rfl,by rw[Sp.out];omega,by rw[Sp.out];omega,by rw[Sp.out];omega,by grind,(fun y hy=>by cases hy),ij,fd⟩
   case round=>
    obtain⟨v,M1,M2,rfl,fj,my,hvk,LK,H2,jp,hgr2⟩:=hrel;have Gw:Hid ((∀y∈M1,R y x)->∃M',List.Perm M' (A.take (k+1))/\M'.Pairwise R/\(P++M1++[x]++M2++(A.drop (k+1)++S))=P++M'++A.drop (k+1)++S):=by
     intro h1;refine⟨M1++[x]++M2,?_,?_,by simp[bY]⟩;·have:=HM.out;rw[LK.out]at this;have:=O8 A M1 M2 k hlt this;rw[HX.out]at this;exact this
     ·have:=HMP.out;rw[LK.out]at this;exact O7 M1 M2 x this h1 H2
    rcases Ua M1 with rfl|⟨M',y,rfl⟩
    ·have hva:v=a:=by simp at fj my;omega
     subst hva;obtain⟨M',d1,d2,d3⟩:=Gw (fun y hy=>by cases hy);have m8:Hid (aN wr blk off (P++M'++A.drop (k+1)++S)):=by have:=jp.out;rw[d3]at this;exact this
     have D1:=qH<|d1;have D2:=qH<|d2;have qh:=qH<|hgr2.out;go_wp2_with fail;go_quiet(fail);go_wp2;go_roundw;case rel=>exact⟨u+1,k+1,M',by go_num,by omega,by omega,by omega,Or.inl (by omega),D1,D2,m8.drewN _,grown_trans qh (BK _ _ _)⟩
     case measure=>simp[intOf];omega
    ·have vQ:(M'++[y]).length=M'.length+1:=by simp
     rw[vQ]at fj my hvk;obtain⟨q,hq⟩:=af (a+M'.length);have hqv:q+1=v:=by omega
     have hvi:(v:Int)-1=(q:Int):=by omega
     have RM:(a:Int)<(v:Int):=by omega
     have hvn:(v:Int)<(n:Int):=by omega
     have hqn:(q:Int)<(n:Int):=by omega
     have hwq:IntKind.i64.wrap (q:Int)=(q:Int):=IntWalk.i64_in _ ⟨by omega,by omega⟩;have Am:(P++M').length=q:=by have:=HA.out;rw[aI];omega
     have HYM:Hid (y∈M):=by show y∈M;rw[LK.out];simp
     have hdx:((P++M')++[y]++[x]++(M2++(A.drop (k+1)++S)))[q]?.getD 0=y:=by rw[<-Am];exact(pT _ _ _ _).1
     have hdy:((P++M')++[y]++[x]++(M2++(A.drop (k+1)++S)))[v]?.getD 0=x:=by rw[<-hqv,<-Am];exact(pT _ _ _ _).2
     have HL2:((P++M')++[y]++[x]++(M2++(A.drop (k+1)++S))).length=n:=by have h1:=Sp.out;rw[LK.out]at h1;have:=HN.out;simp only[aI,dL,cP,fh]at*;omega
     have hr1:aN wr blk off ((P++M')++[y]++[x]++(M2++(A.drop (k+1)++S))):=by have:=jp.out;simpa[bY]using this
     have c0:=cell_grown hr1.1 (by rw[(hr1.2 q (by omega)).1,hdx]);have c1:=cell_grown hr1.1 (by rw[(hr1.2 v (by omega)).1,hdy]);have LZ:=fun n' os'=>
      VC.out _ (grown_trans (grown_trans LM hgr2) (grown_below (kp wr n' os'))) x Ry y (VG y HYM).1;obtain⟨z,hz⟩:=af (cf x y);have HZ:=qH<|hz;have HR1:=qH<|hr1;have HQV:Hid (q+1=v/\(P++M').length=q):=⟨hqv,Am⟩;have HQ:=qH<|hq;have HDX:=qH<|hdx;have HDY:=qH<|hdy;have Jn:=qH<|HL2;rw[hz]at LZ;clear hq hz hr1 Am hqv hdx hdy HL2 vQ jp;go_wp2_with fail;go_quiet_grown(first|(go_at_fn g;refine Calls.grown_of (LZ _ _)));have HR2:Hid (aN (grow (wr.drewN nq) osq) blk off ((P++M')++[y]++[x]++(M2++(A.drop (k+1)++S)))):=HR1.below (kp _ _ _);have qh:Hid (w.grownBy (grow (wr.drewN nq) osq) (some blk)):=grown_trans hgr2 (grown_below (kp _ _ _));clear HR1 hgr2 c0 c1 LZ;generalize grow (wr.drewN nq) osq=wc at HR2 qh⊢;clear nq osq;by_cases dJ:z<0
     ·have hd:decide (z<0)=true:=by simp[dJ]
      rw[hd];have Mc:=HO.lt x Ry y (VG y HYM).1 (by rw[HZ.out];exact dJ);have H2':Hid (∀y'∈y::M2,R x y'):=by
       intro y' WB;rcases ja.1 WB with rfl|h3;·exact Mc
       ·exact H2 y' h3
      have zeX:Hid (M=M'++(y::M2)):=by show _=_;rw[LK.out];simp
      have zo0:q<n:=by omega
      have zpg:v<n:=by omega
      have c0:wc.cell? (aq blk (off+q))=some (Iq y):=by rw[(HR2.2 q (by rw[Jn.out];omega)).1,HDX.out]
      have f0:=(HR2.2 q (by rw[Jn.out];omega)).2;have c1:wc.cell? (aq blk (off+v))=some (Iq x):=by rw[(HR2.2 v (by rw[Jn.out];omega)).1,HDY.out]
      have f1:=(HR2.2 v (by rw[Jn.out];omega)).2;have Ev:Hid (aN ((wc.setCell (aq blk (off+v)) (Iq y)).setCell (aq blk (off+q)) (Iq x)) blk off (P++M'++[x]++(y::M2)++(A.drop (k+1)++S))):=by have:=mz HR2 v q (by rw[Jn.out];omega) (by rw[Jn.out];omega);rw[HDX.out,HDY.out,DO _ _ _ (by rw[Jn.out];omega) (by rw[Jn.out];omega)]at this;have jD:=vx (P++M') y x (M2++(A.drop (k+1)++S));rw[HQV.2,HQV.1]at jD;rw[jD]at this;show aN _ _ _ _;simpa[bY]using this
      have HG:Hid (w.grownBy ((wc.setCell (aq blk (off+v)) (Iq y)).setCell (aq blk (off+q)) (Iq x)) (some blk)):=
       grown_trans qh (grown_trans (eK _ _ _ _) (eK _ _ _ _));have hqv:q<v:=by have:=HQV.1;omega
      clear HR2 qh Mc Gw;go_wp2;go_big_region;go_wp2;go_roundw;case rel=>exact⟨q,M',y::M2,rfl,by have:=HQ.out;omega,by have:=HQ.out;omega,by omega,zeX,H2',Ev,fx HG⟩
      case measure=>simp[intOf];omega
     ·have hd:decide (z<0)=false:=by simp[dJ]
      rw[hd];have Mc:=HO.ge y (VG y HYM).1 x Ry (VG y HYM).2 (by rw[HZ.out];exact dJ);obtain⟨M3,d1,d2,d3⟩:=Gw (by
       intro y' WB;rcases lX.1 WB with h3|h3;·have hp:=HMP.out;rw[LK.out]at hp;have h4:=(ka.1 (ka.1 hp).1).2.2 y' h3 y (by simp);exact HO.trans y' (VG y' (by rw[LK.out];simp[h3])).1 y (VG y HYM).1 x Ry h4 Mc
       ·rw[pI]at h3;subst h3;exact Mc);have m8:Hid (aN wc blk off (P++M3++A.drop (k+1)++S)):=by have:=HR2.out;show aN _ _ _ _;rw[<-d3];simpa[bY]using this
      have D1:=qH<|d1;have D2:=qH<|d2;clear d1 d2 d3 HR2 Gw Mc;go_wp2;go_roundw;case rel=>exact⟨u+1,k+1,M3,by go_num,by omega,by omega,by omega,Or.inl (by omega),D1,D2,m8,qh⟩
      case measure=>simp[intOf];omega
  ·have aR:¬(u:Int)<(b:Int):=by omega
   have m8:Hid (aN wr blk off (P++M++S)):=by have:=hrow.out;rw[IW (by omega)]at this;show aN _ _ _ _;simpa[bY]using this
   have HM':Hid (M.Perm A):=by have:=HM.out;rw[im (by omega)]at this;exact this
   clear hrow HM;go_wp2;go_end0;exact⟨rfl,⟨M,HM',HMP,m8⟩,fd⟩
inductive fQ(R:Int->Int->Prop)(s:Nat):List Int->List Int->Prop
 |nil:fQ R s [] []
 |cons (T M L d:List Int):M.Perm T->M.Pairwise R->T.length<=s->(T.length=s\/L=[])->fQ R s L d->fQ R s (T++L) (M++d)
def yy(R:Int->Int->Prop)(s:Nat)(L1 Y:List Int):Prop:=∀L' d',fQ R s L' d'->fQ R s (L1++L') (Y++d')
theorem fQ.len{R}{s}{L d}(h:fQ R s L d):d.length=L.length:=by
 induction h with
 |nil=>rfl
 |cons T M L d hp _ _ _ _ ih=>rw[aI,aI,hp.length_eq,ih]
theorem fQ.mem{R}{s}{L d}(h:fQ R s L d):d.Perm L:=by
 induction h with
 |nil=>grind
 |cons T M L d hp _ _ _ _ ih=>grind
theorem fQ.split{R}{s}{L d}(h:fQ R s L d)(hs:s<d.length):∃T M L' d',L=T++L'/\d=M++d'/\M.Perm T/\M.Pairwise R/\T.length=s/\fQ R s L' d':=by
 cases h with
 |nil=>simp at hs
 |cons T M L d hp hw hl hf hr=>
  rcases hf with hf|rfl;·grind
  ·have:=hr.len;have:=hp.length_eq;grind
theorem fQ.one{R}{s}{L d}(h:fQ R s L d)(_w:0<s)(hs:d.length<=s):d.Perm L/\d.Pairwise R:=by
 cases h with
 |nil=>simp_all
 |cons T M L d hp hw hl hf hr=>
  have h1:=hr.len;have h2:=hp.length_eq;have:d=[]:=by
   rcases hf with hf|rfl;·simp only[aI]at hs;exact pH (by omega)
   ·grind
  grind
theorem fQ.single{R}{s}{L d}(hp:d.Perm L)(hw:d.Pairwise R)(hs:L.length<=s):fQ R s L d:=by have:=fQ.cons (R:=R) (s:=s) L d [] [] hp hw hs (Or.inr rfl) .nil;grind
theorem yy.nil{R}{s}:yy R s [] []:=fun _ _ h=>h
theorem yy.snoc{R}{s}{L1 Y T M}(h:yy R s L1 Y)(hp:M.Perm T)(hw:M.Pairwise R)(hs:T.length=s):yy R s (L1++T) (Y++M):=fun L' d' hr=>by rw[bY,bY];exact h _ _ (fQ.cons T M L' d' hp hw (by omega) (Or.inl hs) hr)
theorem Gf(g:Nat)(lb:Array Value)(eg:∀args w,(callFunc g args).run prog w=.ok (.enter g args) w)(cf:Int->Int->Int)(D:List Int)(R:Int->Int->Prop)(hO:Ord cf D R)(w0:World)(blk off cap:Nat)(hcmp:Et g lb cf D w0 blk)(L:List Int)(w:World)(n:Nat)(hw0:w0.grownBy w (some blk))(h:aN w blk off L)(hD:∀x∈L,x∈D)(hasc:L.Pairwise (·<·))(hn:L.length=n)(aO:n<=1099511627776):
 Cw 283 #[.slice (some (aq blk off)) n cap,Iq n,.func (.func g) #[] lb] w fun e w'=>e=Rw (.tuple #[])/\Sorted w w' blk off R [] L []:=by
 have HR:=qH<|h;have LM:=qH<|hw0;have HD:=qH<|hD;have Zv:=qH<|hasc;have HN:=qH<|hn;have CI:=qH<|
  fun P A S W a b h1 h2 h3 h4 h5 h6 h7=>TZ g lb eg cf D R hO w0 blk off cap hcmp P A S W n a b (grown_trans LM h1) h2 h3 h4 h5 aO h6 h7;have CS:=qH<|
  fun P A B S W a m b h1 h2 h3 h4 h5 h6 h7 h8 h9 fM h11 ZX h13=>IG g lb eg cf D R hO w0 blk off cap hcmp.ok (A.length+B.length) P A B S W n a m b (ae _) (grown_trans LM h1) h2 h3 h4 h5 h6 h7 h8 h9 fM aO h11 ZX h13;go_enter func283,ntmps283;go_wp2;go_loopw[7,8] (fun i j wr=>∃(a b:Nat) (L1 T Y:List Int),i=Iq a/\j=Iq b/\b<=a+20/\a+20<=b/\a<=n/\Hid (a+T.length=n)/\Hid (Y.length=a)/\Hid (L=L1++T)/\Hid (yy R 20 L1 Y)/\Hid (aN wr blk off (Y++T))/\Hid (w.grownBy wr (some blk))) (fun i _ _=>n-(intOf i).toNat);case atStart=>exact⟨0,20,[],L,[],by go_num,by go_num,by omega,by omega,by omega,by grind,by show _=_;rfl,by show _=_;rfl,yy.nil,HR,dl _ _⟩
 case round=>
  obtain⟨a,b,L1,T,Y,rfl,rfl,hb1,dE,han,HT,HY,HL,HDn,hrow,fd⟩:=hrel;by_cases Ho:b<=n
  ·have Ye:(b:Int)<=(n:Int):=by omega
   have C:Hid (Cw 288 #[.slice (some (aq blk off)) n cap,Iq a,Iq b,.func (.func g) #[] lb] wr fun e w'=>e=Rw (.tuple #[])/\Sorted wr w' blk off R Y (T.take 20) (T.drop 20)):=by
    have:=HT.out;have:=HY.out;refine CI Y (T.take 20) (T.drop 20) wr a b fd ?_ ?_ ?_ ?_ HY ?_;·rw[bY,gy];exact hrow
    ·intro x hx;exact HD x (by rw[HL.out];grind)
    ·have h1:=Zv.out;rw[HL.out]at h1;grind
    ·grind
    ·grind
   go_wp2_with fail;refine C.mono ?_;rintro e w2 ⟨rfl,⟨M,m1,m2,r2⟩,g2⟩;have HT':Hid (b+(T.drop 20).length=n):=by show _=_;have:=HT.out;rw[dL];omega
   have zhE:(T.take 20).length=20:=by have:=HT.out;rw[bU];omega
   have HY':Hid ((Y++M).length=b):=by show _=_;have:=HY.out;rw[aI,m1.length_eq];omega
   have HL':Hid (L=(L1++T.take 20)++T.drop 20):=by show _=_;rw[bY,gy];exact HL
   have Xj:=qH<|HDn.snoc m1 m2 zhE;have ij:=qH<|r2;have oJ:=qH<|grown_trans fd g2;go_wp2;go_roundw;case rel=>exact⟨b,b+20,L1++T.take 20,T.drop 20,Y++M,rfl,by go_num,by omega,by omega,Ho,HT',HY',HL',Xj,ij,oJ⟩
   case measure=>simp[intOf];omega
  ·have Ye:¬(b:Int)<=(n:Int):=by omega
   have C:Hid (Cw 288 #[.slice (some (aq blk off)) n cap,Iq a,Iq n,.func (.func g) #[] lb] wr fun e w'=>e=Rw (.tuple #[])/\Sorted wr w' blk off R Y T []):=by
    have:=HT.out;have:=HY.out;refine CI Y T [] wr a n fd (by simpa using hrow.out) ?_ ?_ ?_ HY (by omega);·intro x hx;exact HD x (by rw[HL.out];grind)
    ·have h1:=Zv.out;rw[HL.out]at h1;grind
    ·grind
   go_wp2_with fail;refine C.mono ?_;rintro e w2 ⟨rfl,⟨M,m1,m2,r2⟩,g2⟩;have HRn:Hid (fQ R 20 L (Y++M)):=by show fQ R 20 L (Y++M);rw[HL.out];exact HDn T M (fQ.single m1 m2 (by have:=HT.out;omega))
   have ij:Hid (aN w2 blk off (Y++M)):=by have:=r2;show aN _ _ _ _;simpa using this
   have oJ:=qH<|grown_trans fd g2;go_wp2;go_loopw[6] (fun i wr=>∃(s:Nat) (d:List Int),i=Iq s/\20<=s/\s<=2*n+20/\Hid (fQ R s L d)/\Hid (aN wr blk off d)/\Hid (w.grownBy wr (some blk))) (fun i _=>n-(intOf i).toNat);case atStart=>grind
   case round=>
    obtain⟨s,d,rfl,zo5,_y,HRn2,jp,hgr2⟩:=hrel;by_cases pR:s<n
    ·have zhz:(s:Int)<(n:Int):=by omega
     obtain⟨t,ht⟩:∃t:Nat,2*s=t:=⟨_,rfl⟩;have hti:(2:Int)*(s:Int)=(t:Int):=by omega
     have htj:(s:Int)*(2:Int)=(t:Int):=by omega
     go_wp2;go_loopw[7,8] (fun i j wr=>∃(a b:Nat) (L1 L' Y d':List Int),i=Iq a/\j=Iq b/\b<=a+t/\a+t<=b/\a<=n/\Hid (a+d'.length=n)/\Hid (Y.length=a)/\Hid (L=L1++L')/\Hid (yy R t L1 Y)/\Hid (fQ R s L' d')/\Hid (aN wr blk off (Y++d'))/\Hid (w.grownBy wr (some blk))) (fun i _ _=>n-(intOf i).toNat);case atStart=>exact⟨0,t,[],L,[],d,by go_num,rfl,by omega,by omega,by omega,by show _=_;have:=HN.out;have:=HRn2.len;omega,by show _=_;rfl,by show _=_;rfl,yy.nil,HRn2,jp,hgr2⟩
     case round=>
      obtain⟨a,b,L1,L',Y,d',rfl,rfl,hb1,dE,han,HT,HY,HL,HDn,Mq,m8,qh⟩:=hrel;by_cases Ho:b<=n
      ·have Ye:(b:Int)<=(n:Int):=by omega
       obtain⟨T1,M1,L2,d2,e1,e2,p1,w1,l1,r1⟩:=Mq.split (by have:=HT.out;omega);have Ov:s<=d2.length:=by have h1:=HT.out;rw[e2,aI,p1.length_eq]at h1;omega
       obtain⟨T2,M2,L3,d3,f1,f2,p2,_O,l2,r2⟩:∃T M L' d',L2=T++L'/\d2=M++d'/\M.Perm T/\M.Pairwise R/\T.length=s/\fQ R s L' d':=by
        by_cases hq:s<d2.length;·exact r1.split hq
        ·have ho:=r1.one (by omega) (by omega);exact⟨L2,d2,[],[],by simp,by simp,ho.1,ho.2,by have:=r1.len;omega,.nil⟩
       subst e1;subst e2;subst f1;subst f2;obtain⟨m,hm⟩:∃m:Nat,a+s=m:=⟨_,rfl⟩;have TE:(a:Int)+(s:Int)=(m:Int):=by omega
       have hL:=HL.out;have Z4:=Zv.out;rw[hL]at Z4;have hA1:=(ka.1 Z4).2.1;have C:Hid (Cw 289 #[.slice (some (aq blk off)) n cap,Iq a,Iq m,Iq b,.func (.func g) #[] lb] wr fun e w'=>e=Rw (.tuple #[])/\tz wr w' blk off R Y M1 M2 d3):=by
        have h1:=HT.out;have h2:=HY.out;have q1:=p1.length_eq;have q2:=p2.length_eq;simp only[aI]at h1;refine CS Y M1 M2 d3 wr a m b qh (by simpa[bY]using m8.out) ?_ ?_ w1 _O ?_ (by omega) (by omega) (by simp only[aI];omega) HY (by omega) (by omega);·intro x hx;exact HD x (by rw[hL];simp[p1.mem_iff.1 hx])
        ·intro x hx;exact HD x (by rw[hL];simp[p2.mem_iff.1 hx])
        ·intro x hx y hy;exact(ka.1 hA1).2.2 x (p1.mem_iff.1 hx) y (lX.2 (Or.inl (p2.mem_iff.1 hy)))
       have KP:Hid (M1.Perm T1/\M2.Perm T2/\T1.length=s/\T2.length=s):=⟨p1,p2,l1,l2⟩;have KR:=qH<|r2;go_wp2_with fail;refine C.mono ?_;rintro e w2 ⟨rfl,⟨M,m1,m2,r2⟩,g2⟩;have HT':Hid (b+d3.length=n):=by show _=_;have h1:=HT.out;have q1:=KP.1.length_eq;have q2:=KP.2.1.length_eq;have q3:=KP.2.2;simp only[aI]at h1;omega
       have HY':Hid ((Y++M).length=b):=by show _=_;have h1:=HY.out;have q1:=KP.1.length_eq;have q2:=KP.2.1.length_eq;have q3:=KP.2.2;rw[aI,m1.length_eq,aI];omega
       have HL':Hid (L=(L1++(T1++T2))++L3):=by show _=_;rw[HL.out];simp[bY]
       have Xj:=qH<|HDn.snoc (m1.trans (KP.1.append KP.2.1)) m2 (by have:=KP.2.2;rw[aI];omega);have ij:=qH<|r2;have oJ:=qH<|grown_trans qh g2;go_wp2;go_roundw;case rel=>exact⟨b,b+t,L1++(T1++T2),L3,Y++M,d3,rfl,by go_num,by omega,by omega,Ho,HT',HY',HL',Xj,KR,ij,oJ⟩
       case measure=>simp[intOf];omega
      ·have Ye:¬(b:Int)<=(n:Int):=by omega
       obtain⟨m,hm⟩:∃m:Nat,a+s=m:=⟨_,rfl⟩;have TE:(a:Int)+(s:Int)=(m:Int):=by omega
       by_cases Em:m<n
       ·have zg7:(m:Int)<(n:Int):=by omega
        obtain⟨T1,M1,L2,d2,e1,e2,p1,w1,l1,r1⟩:=Mq.split (by have:=HT.out;omega);subst e1;subst e2;have Ov:d2.length<=s:=by have h1:=HT.out;rw[aI,p1.length_eq]at h1;omega
        obtain⟨p2,_O⟩:=r1.one (by omega) Ov;have hL:=HL.out;have Z4:=Zv.out;rw[hL]at Z4;have hA1:=(ka.1 Z4).2.1;have C:Hid (Cw 289 #[.slice (some (aq blk off)) n cap,Iq a,Iq m,Iq n,.func (.func g) #[] lb] wr fun e w'=>e=Rw (.tuple #[])/\tz wr w' blk off R Y M1 d2 []):=by
         have h1:=HT.out;have h2:=HY.out;have q1:=p1.length_eq;simp only[aI]at h1;refine CS Y M1 d2 [] wr a m n qh (by simpa[bY]using m8.out) ?_ ?_ w1 _O ?_ (by omega) (by omega) (by simp only[aI,fh];omega) HY (by omega) (by omega);·intro x hx;exact HD x (by rw[hL];simp[p1.mem_iff.1 hx])
         ·intro x hx;exact HD x (by rw[hL];simp[p2.mem_iff.1 hx])
         ·intro x hx y hy;exact(ka.1 hA1).2.2 x (p1.mem_iff.1 hx) y (p2.mem_iff.1 hy)
        have KE:Hid (∀M:List Int,M.Perm (M1++d2)->M.Pairwise R->fQ R t L (Y++M)):=by intro M m1 m2;have h1:=HT.out;rw[hL];refine HDn _ _ (fQ.single (m1.trans (p1.append p2)) m2 ?_);have q1:=p1.length_eq;have q2:=p2.length_eq;simp only[aI]at*;omega
        clear p1 p2 l1 r1 w1 _O hm hL Z4 hA1 Ov;go_wp2_with fail;refine C.mono ?_;rintro e w2 ⟨rfl,⟨M,m1,m2,r2⟩,g2⟩;have KR:=qH<|KE M m1 m2;have ij:Hid (aN w2 blk off (Y++M)):=by have:=r2;show aN _ _ _ _;simpa using this
        have oJ:=qH<|grown_trans qh g2;clear m1 m2 r2 g2 C m8 qh HT HY HL HDn Mq KE;go_wp2;go_roundw;case rel=>exact⟨t,Y++M,rfl,by omega,by omega,KR,ij,oJ⟩
        case measure=>simp[intOf];omega
       ·have zg7:¬(m:Int)<(n:Int):=by omega
        have KR:Hid (fQ R t L (Y++d')):=by show fQ R t L (Y++d');have h1:=HT.out;obtain⟨p2,_O⟩:=Mq.one (by omega) (by omega);rw[HL.out];exact HDn _ _ (fQ.single p2 _O (by have:=p2.length_eq;omega))
        clear HT HY HL HDn Mq hm;go_wp2;go_roundw;case rel=>exact⟨t,Y++d',rfl,by omega,by omega,KR,m8,qh⟩
        case measure=>simp[intOf];omega
    ·have zhz:¬(s:Int)<(n:Int):=by omega
     have HF:=qH<|HRn2.one (by omega) (by have:=HRn2.len;have:=HN.out;omega);go_wp2;go_end0;exact⟨rfl,⟨d,HF.1,HF.2,by simpa using jp.out⟩,hgr2⟩
theorem lN(g:Nat)(lb:Array Value)(eg:∀args w,(callFunc g args).run prog w=.ok (.enter g args) w)(cf:Int->Int->Int)(D:List Int)(R:Int->Int->Prop)(hO:Ord cf D R)(w0:World)(blk off cap:Nat)(hcmp:Et g lb cf D w0 blk)(L:List Int)(w:World)(n:Nat)(hw0:w0.grownBy w (some blk))(h:aN w blk off L)(hD:∀x∈L,x∈D)(hasc:L.Pairwise (·<·))(hn:L.length=n)(aO:n<=1099511627776):
 Cw 270 #[.slice (some (aq blk off)) n cap,.func (.func g) #[] lb] w fun e w'=>e=Rw (.tuple #[])/\Sorted w w' blk off R [] L []:=by
 have C:=qH<|
  Gf g lb eg cf D R hO w0 blk off cap hcmp L w n hw0 h hD hasc hn aO;clear h hO hw0 hcmp hD hasc hn;go_enter func270,ntmps270;go_wp2_with fail;refine C.mono ?_;rintro e w2 ⟨rfl,s2⟩;have S2:=qH<|s2;clear s2 C;go_wp2;go_end0;exact⟨rfl,S2⟩
theorem T0(fv:Value)(w:World):
 Cw 288 #[.slice none 0 0,Iq 0,Iq 0,fv] w fun e w'=>e=Rw (.tuple #[])/\w'=w:=by
 go_enter func288,ntmps288;go_wp2;go_loopw[8] (fun i wr=>i=Iq 1/\wr=w) (fun i _=>0);case atStart=>grind
 case round=>obtain⟨rfl,rfl⟩:=hrel;go_wp2;go_end0;simp_all
theorem Gg(fv:Value)(w:World):
 Cw 283 #[.slice none 0 0,Iq 0,fv] w fun e w'=>e=Rw (.tuple #[])/\w'=w:=by
 go_enter func283,ntmps283;go_wp2;go_loopw[7,8] (fun i j wr=>i=Iq 0/\j=Iq 20/\wr=w) (fun i _ _=>0);case atStart=>grind
 case round=>
  obtain⟨rfl,rfl,rfl⟩:=hrel;go_wp2_with fail;refine(T0 fv wr).mono ?_;rintro e w2 ⟨rfl,rfl⟩;go_wp2;go_loopw[6] (fun i wr=>i=Iq 20/\wr=w2) (fun i _=>0);case atStart=>grind
  case round=>obtain⟨rfl,rfl⟩:=hrel;go_wp2;go_end0;simp_all
theorem vs(fv:Value)(w:World):
 Cw 270 #[.slice none 0 0,fv] w fun e w'=>e=Rw (.tuple #[])/\w'=w:=by go_enter func270,ntmps270;go_wp2_with fail;refine(Gg fv w).mono ?_;rintro e w2 ⟨rfl,rfl⟩;go_wp2;go_end0;grind
def jQ(x y:Int):Int:=if x<y then-1 else if y<x then 1 else 0
theorem uD(x:Int)(w:World):
 Cw 221 #[Iq x] w fun e w'=>e=Rw (.bool false)/\w'=w:=by go_enter func221,ntmps221;go_wp2;go_ret;simp_all
theorem re(x y:Int)(w:World):
 Cw 272 #[Iq x,Iq y] w fun e w'=>e=Rw (Iq (jQ x y))/\w'=w:=by
 obtain⟨z,hz⟩:=af (jQ x y);have HZ:=qH<|hz;rw[hz];clear hz;by_cases h1:x<y
 ·have fy:z=-1:=by have:=HZ.out;unfold jQ at this;rw[if_pos h1]at this;exact this.symm
  subst fy;go_enter func272,ntmps272;go_wp2_with(refine(uD _ _).mono ?_;rintro e w2 ⟨rfl,rfl⟩);try go_wp2
  go_ret;simp_all
 ·by_cases h2:y<x
  ·have fy:z=1:=by have:=HZ.out;unfold jQ at this;rw[if_neg h1,if_pos h2]at this;exact this.symm
   subst fy;go_enter func272,ntmps272;go_wp2_with(refine(uD _ _).mono ?_;rintro e w2 ⟨rfl,rfl⟩);go_ret;simp_all
  ·have fy:z=0:=by have:=HZ.out;unfold jQ at this;rw[if_neg h1,if_neg h2]at this;exact this.symm
   subst fy;go_enter func272,ntmps272;go_wp2_with(refine(uD _ _).mono ?_;rintro e w2 ⟨rfl,rfl⟩);go_ret;simp_all
def gb(d:List Int):Nat->Int->List Int->List Int
 |0,_,Y=>Y
 |c+1,m,Y=>gb d c (m-min m (d[c]?.getD 0)) ((d[c]?.getD 0-min m (d[c]?.getD 0))::Y)
theorem KK{W}{blk off}{d}(h:aN W blk off d)  i   y  (hi:i<d.length):aN (W.setCell (aq blk (off+i)) (Iq y)) blk off (d.set i y):=by
 refine⟨by simpa using h.1,fun k hk=>?_⟩;rw[List.length_set]at hk;simp only[kO];refine⟨?_,(h.2 k hk).2⟩;have hc:=(h.2 k hk).1;by_cases h1:k=i;·subst h1;rw[rO _ _ _ (by grind)];simp[hk]
 ·rw[dy _ _ _ _ (fun e=>h1 (by grind)),hc,vH (fun e=>h1 e.symm)]
theorem U9(X:List Int)  x y   Y  :(X++[x]++Y).set X.length y=X++(y::Y):=by grind
theorem zj(d:List Int)(blk off cap:Nat)(qw:Int)(w:World)(n:Nat)(h:aN w blk off d)(hn:d.length=n)(aO:n<=1099511627776)(hd:∀x∈d,0<=x/\x<=1099511627776)(hm:0<=qw/\qw<=1099511627776):
 Cw 232 #[.slice (some (aq blk off)) n cap,Iq qw] w fun e w'=>e=Rw (.tuple #[])/\aN w' blk off (gb d n qw [])/\w.grownBy w' (some blk):=by
 have HR:=qH<|h;have HN:=qH<|hn;have HD:=qH<|hd;have rj:=hm.1;have hm2:=hm.2;clear h hn hd hm;go_enter func232,ntmps232;go_wp2;go_loopw[1,4] (fun m i wr=>∃(c:Nat) (mu iv:Int) (Y:List Int),m=Iq mu/\i=Iq iv/\iv<=(c:Int)-1/\(c:Int)-1<=iv/\c<=n/\0<=mu/\mu<=1099511627776/\Hid (gb d c mu Y=gb d n qw [])/\Hid (c+Y.length=n)/\Hid (aN wr blk off (d.take c++Y))/\Hid (w.grownBy wr (some blk))) (fun _ i _=>(intOf i+1).toNat);case atStart=>exact⟨n,qw,(n:Int)-1,[],rfl,by go_num,by omega,by omega,ae _,rj,hm2,by show _=_;rfl,by show _=_;rfl,by show aN _ _ _ _;rw[ik,im (by rw[HN.out];omega)];exact HR,dl _ _⟩
 case round=>
  obtain⟨c,mu,iv,Y,rfl,rfl,h1,h2,Z8,Hz,OS,HG,HC,hrow,fd⟩:=hrel;match c with
  |0=>
   have kV:¬(0:Int)<=iv:=by omega
   go_wp2;go_end0;exact⟨rfl,by have:=hrow.out;have h0:=HG.out;simp_all[gb],fd⟩
  |c+1=>
   have fW:(0:Int)<=iv:=by omega
   obtain rfl:iv=(c:Int):=by omega
   obtain⟨x,hx⟩:=af (d[c]?.getD 0);have Wj:c<d.length:=by rw[HN.out];omega
   have sX:=HD x (by grind);have uA:=sX.1;have ky:=sX.2;have znS:(c:Int)<(n:Int):=by omega
   have Mb:=(j' d c Wj).1;rw[hx]at Mb;have hr1:=hrow.out;rw[Mb]at hr1;have Am:(d.take c).length=c:=by rw[bU];omega
   have hL:(d.take c++[x]++Y).length=n:=by have:=HC.out;simp only[aI,bU,cP,fh];omega
   have dm:(d.take c++[x]++Y)[c]?.getD 0=x:=by
    have:(d.take c++[x]++Y)[(d.take c).length]?.getD 0=x:=by simp[bY]
    rw[Am]at this;exact this
   have c0:wr.cell? (aq blk (off+c))=some (Iq x):=by rw[(hr1.2 c (by omega)).1,dm]
   have f0:=(hr1.2 c (by omega)).2;obtain⟨bk,RO⟩:=af (min mu x);have Ev:Hid (aN (wr.setCell (aq blk (off+c)) (Iq (x-bk))) blk off (d.take c++((x-bk)::Y))):=by have:=KK hr1 c (x-bk) (by omega);have e:=U9 (d.take c) x (x-bk) Y;rw[Am]at e;rw[e]at this;exact this
   have HG':Hid (gb d c (mu-bk) ((x-bk)::Y)=gb d n qw []):=by have:=HG.out;simp only[gb]at this;rw[hx,RO]at this;exact this
   have HC':Hid (c+((x-bk)::Y).length=n):=by show _=_;have:=HC.out;simp only[cP];omega
   have HGr:Hid (w.grownBy (wr.setCell (aq blk (off+c)) (Iq (x-bk))) (some blk)):=grown_trans fd (eK _ _ _ _);have hb1:bk<=mu:=by omega
   have dE:bk<=x:=by omega
   have xF:0<=bk:=by omega
   have OJ:bk=mu/\mu<=x\/bk=x/\x<mu:=by omega
   clear hx sX Mb hr1 Am hL dm hrow fd HG HC RO Wj;rcases OJ with⟨rfl,qj⟩|⟨rfl,qj⟩
   ·rw[Int.sub_self]at HG';go_wp2;go_roundw;case rel=>grind
    case measure=>simp[intOf]<;>omega
   ·rw[Int.sub_self]at HG' HC' Ev HGr;go_wp2;go_roundw;case rel=>grind
    case measure=>simp[intOf]<;>omega
section
def ar(f:Nat->Int)(l:List Nat):Int:=(l.map f).sum
theorem vw  f  :ar f []=0:=rfl
theorem bB  f   j   l  :ar f (j::l)=f j+ar f l:=by simp[ar]
theorem lR  f   l m  :ar f (l++m)=ar f l+ar f m:=by simp[ar]
theorem iF  f   l   j  :ar f (l++[j])=ar f l+f j:=by simp[ar]
theorem mL{f}{l m}(h:l.Perm m):ar f l=ar f m:=by
 induction h with
 |nil=>rfl
 |cons x _ ih=>grind[bB]
 |swap x y l=>simp only[bB];omega
 |trans _ _ a b=>omega
theorem kJ{f g}{l}(h:∀j∈l,f j<=g j):ar f l<=ar g l:=by
 induction l with
 |nil=>exact lV _
 |cons a l ih=>grind[bB]
theorem bg{f g}{l}(h:∀j∈l,f j=g j):ar f l=ar g l:=
 Int.le_antisymm (kJ fun j hj=>Int.le_of_eq (h j hj)) (kJ fun j hj=>Int.le_of_eq (h j hj).symm)
theorem gX  f g   l  :ar (fun j=>f j+g j) l=ar f l+ar g l:=by
 induction l with
 |nil=>rfl
 |cons a l ih=>grind[bB]
theorem fg  c   f   l  :ar (fun j=>c*f j) l=c*ar f l:=by
 induction l with
 |nil=>simp[ar]
 |cons a l ih=>grind[bB]
theorem cK{f}{l}(h:∀j∈l,0<=f j):0<=ar f l:=by
 induction l with
 |nil=>exact lV _
 |cons a l ih=>grind[bB]
theorem kI{f}{l}{b}(h:∀j∈l,f j<=b):ar f l<=(l.length:Int)*b:=by
 induction l with
 |nil=>simp[ar]
 |cons a l ih=>have:=h a (by simp);have:=ih fun j hj=>h j (by simp[hj]);rw[bB,cP,Int.natCast_add,IZ];omega
theorem j_{f}{l}(h:∀j∈l,0<=f j){i}(hi:i∈l):f i<=ar f l:=by
 induction l with
 |nil=>grind
 |cons a l ih=>have h1:=h a (by simp);have h2:0<=ar f l:=cK fun j hj=>h j (by simp[hj]);grind[bB]
theorem lS{f}{l A}(hl:l.Nodup)(hA:A.Nodup)(hs:∀j∈A,j∈l)(h0:∀j∈l,j∉A->f j=0):ar f l=ar f A:=by
 induction A generalizing l with
 |nil=>
  rw[vw];have:=bg fun j hj=>h0 j hj (by simp);rw[this];clear this h0 hs hl;induction l with
  |nil=>rfl
  |cons a l ih=>grind[bB]
 |cons a A ih=>have ha:=hs a (by simp);have hp:=List.perm_cons_erase ha;rw[mL hp,bB,bB];grind
variable{Mn Mx Wt:Nat->Int}
theorem Km{A B}{i}{L W}(hm:∀j,0<=Mx j-Mn j)(hA:∀j∈A,0<Wt j/\(Mx j-Mn j)*Wt i<=(Mx i-Mn i)*Wt j)(hi:0<Wt i)(hB:∀j∈B,0<Wt j)(hW:W=ar Wt (i::B))(qj:(Mx i-Mn i)*W<=L*Wt i):
 0<=L-(Mx i-Mn i)/\∀j∈A++[i],(Mx j-Mn j)*(W-Wt i)<=(L-(Mx i-Mn i))*Wt j:=by
 have oI:=cK fun j hj=>Int.le_of_lt (hB j hj);rw[bB]at hW;have TE:=hm i;have h1:(Mx i-Mn i)*Wt i<=(Mx i-Mn i)*W:=Xa (by omega) TE;have h2:=Xb (ke h1 qj) hi;have bc:0<=W-Wt i:=by omega
 have hii:(Mx i-Mn i)*(W-Wt i)<=(L-(Mx i-Mn i))*Wt i:=by rw[Int.mul_sub (Mx i-Mn i) W (Wt i),Int.sub_mul L (Mx i-Mn i) (Wt i)];omega
 refine⟨by omega,fun j hj=>?_⟩;rcases lX.1 hj with hj|hj
 ·obtain⟨hj1,L5⟩:=hA j hj;have e1:=lY L5 bc;have e2:(Mx i-Mn i)*(W-Wt i)*Wt j<=(L-(Mx i-Mn i))*Wt i*Wt j:=lY hii (by omega);have e3:(Mx j-Mn j)*(W-Wt i)*Wt i<=(L-(Mx i-Mn i))*Wt j*Wt i:=by rw[h_ (Mx j-Mn j),h_ (L-(Mx i-Mn i))];refine ke e1 ?_;rw[h_ (Mx i-Mn i)];exact e2
  simp_all
 grind
theorem K3{B}{i}{L W}(hi:0<Wt i)(hW:0<W)(hB:∀k∈B,0<Wt k/\(Mx i-Mn i)*Wt k<=(Mx k-Mn k)*Wt i)(Tx:L*Wt i<(Mx i-Mn i)*W):∀k∈i::B,L*Wt k<(Mx k-Mn k)*W:=by
 intro k hk;rcases ja.1 hk with rfl|hk;·exact Tx
 ·obtain⟨h1,h2⟩:=hB k hk;have e1:=Q3 Tx h1;have e2:(Mx i-Mn i)*Wt k*W<=(Mx k-Mn k)*Wt i*W:=lY h2 (by omega);have e3:L*Wt k*Wt i<(Mx k-Mn k)*W*Wt i:=by rw[h_ L,h_ (Mx k-Mn k)];refine rQ e1 ?_;rw[h_ (Mx i-Mn i)];exact e2
  simp_all
theorem kB{S}{L W}(hW:W=ar Wt S)(fW:0<W):0<=L-ar (fun j=>L*Wt j/W) S/\L-ar (fun j=>L*Wt j/W) S<S.length:=by
 have e:ar (fun j=>L*Wt j) S=W*ar (fun j=>L*Wt j/W) S+ar (fun j=>L*Wt j %W) S:=by rw[<-fg,<-gX];exact bg fun j _=>(Int.mul_ediv_add_emod _ _).symm
 rw[fg,<-hW]at e;have f0:0<=ar (fun j=>L*Wt j %W) S:=cK fun j _=>I3 _ (by omega);have f1:ar (fun j=>L*Wt j %W) S<=(S.length:Int)*(W-1):=kI fun j _=>by have:=Q4 (L*Wt j) fW;omega
 have hS:S≠[]:=by intro h;rw[h,vw]at hW;omega
 have hS1:(0:Int)<S.length:=by have:=io.2 hS;omega
 obtain⟨q,hq⟩:=af (ar (fun j=>L*Wt j/W) S);rw[hq]at e⊢;have e2:W*(L-q)=ar (fun j=>L*Wt j %W) S:=by rw[Int.mul_sub,jx W L];omega
 refine⟨?_,?_⟩;·exact Int.le_of_mul_le_mul_left (by omega) fW
 ·refine Int.lt_of_mul_lt_mul_left (a:=W) ?_ (by omega);grind
structure bH(n:Nat)(Mn Mx Wt:Nat->Int)(r:Int)(a:Nat->Int)(A S:List Nat)(L W:Int)(m:Nat):Prop where
 perm:(A++S).Perm ((List.range n).filter fun j=>decide (0<Wt j))
 left:L=r-ar Mn (List.range n)-ar (fun j=>Mx j-Mn j) A
 pos:0<=L
 weight:W=ar Wt S
 full:∀j∈A,(Mx j-Mn j)*W<=L*Wt j
 open_:∀j∈S,L*Wt j<(Mx j-Mn j)*W
 miss:S≠[]->(m:Int)=L-ar (fun j=>L*Wt j/W) S
 none_:S=[]->m=0
 sorted:S.Pairwise fun i k=>L*Wt k %W<L*Wt i %W\/(L*Wt i %W=L*Wt k %W/\i<k)
 is:∀j,j<n->a j=if j∈A then Mx j else if j∈S then Mn j+L*Wt j/W+(if j∈S.take m then 1 else 0)else Mn j
theorem bH.facts{n}{r}{a}{A S}{L W}{m}(h:bH n Mn Mx Wt r a A S L W m):
 A.Nodup/\S.Nodup/\(∀j∈A,j∉S)/\(∀j∈A,j<n/\0<Wt j)/\(∀j∈S,j<n/\0<Wt j)/\(∀j,j<n->0<Wt j->j∈A\/j∈S):=by
 have hf:((List.range n).filter fun j=>decide (0<Wt j)).Nodup:=yh.filter _;have hn:=h.perm.nodup_iff.2 hf;rw[QX]at hn;have hm:∀j,j∈A++S↔j<n/\0<Wt j:=fun j=>by rw[h.perm.mem_iff];simp
 grind
theorem J7{x y W:Int}(hW:0<W)(h:x<y*W):x/W+1<=y:=by have:=Int.ediv_lt_of_lt_mul hW h;omega
theorem bH.bds{n}{r}{a}{A S}{L W}{m}(h:bH n Mn Mx Wt r a A S L W m)(hw:∀j,Mn j<=Mx j)(hp:∀j,0<=Wt j):
 ∀j,j<n->Mn j<=a j/\a j<=Mx j/\(Wt j=0->a j=Mn j):=by
 obtain⟨hA,hS,hd,fA,fS,fU⟩:=h.facts;intro j hj;rw[h.is j hj];have:=hw j;have:=hp j;by_cases h1:j∈A;·grind
 ·rw[if_neg h1];by_cases h2:j∈S
  ·rw[if_pos h2];have fW:0<W:=by rw[h.weight];exact rQ (fS j h2).2 (j_ (fun k _=>hp k) h2)
   have:=J7 fW (h.open_ j h2);have h0:0<=L*Wt j/W:=I4 (kh h.pos (hp j)) (by omega);grind
  grind
theorem DQ  S  (hS:S.Nodup)  m  (hm:m<=S.length):ar (fun j=>if j∈S.take m then 1 else 0) S=m:=by
 have e:ar (fun j=>if j∈S.take m then(1:Int)else 0) S=ar (fun j=>if j∈S.take m then(1:Int)else 0) (S.take m):=
  lS hS (hS.sublist (List.take_sublist _ _)) (fun j hj=>nt hj) (fun j _ hj=>if_neg hj);rw[e,bg (g:=fun _=>1) (fun j hj=>if_pos hj)];have:∀l:List Nat,ar (fun _=>(1:Int)) l=l.length:=by
  intro l;induction l with
  |nil=>rfl
  |cons a l ih=>grind[bB]
 grind
theorem bH.sum{n}{r}{a}{A S}{L W}{m}(h:bH n Mn Mx Wt r a A S L W m)(hp:∀j,0<=Wt j):
 (S≠[]->ar a (List.range n)=r)/\(S=[]->ar a (List.range n)=ar (fun j=>if 0<Wt j then Mx j else Mn j) (List.range n)/\L=r-ar a (List.range n)):=by
 obtain⟨hA,hS,hd,fA,fS,fU⟩:=h.facts;have hr:(List.range n).Nodup:=yh;have e0:ar a (List.range n)=ar Mn (List.range n)+ar (fun j=>(if j∈A then Mx j-Mn j else 0)+(if j∈S then L*Wt j/W+(if j∈S.take m then 1 else 0)else 0)) (List.range n):=by
  rw[<-gX];refine bg fun j hj=>?_;rw[h.is j (by grind)];by_cases h1:j∈A;·grind
  ·grind
 have eA:ar (fun j=>if j∈A then Mx j-Mn j else 0) (List.range n)=ar (fun j=>Mx j-Mn j) A:=by rw[lS (A:=A) hr hA (fun j hj=>by grind) (fun j _ hj=>if_neg hj)];exact bg fun j hj=>if_pos hj
 have eS:ar (fun j=>if j∈S then L*Wt j/W+(if j∈S.take m then 1 else 0)else 0) (List.range n)=ar (fun j=>L*Wt j/W) S+ar (fun j=>if j∈S.take m then 1 else 0) S:=by rw[lS (A:=S) hr hS (fun j hj=>by grind) (fun j _ hj=>if_neg hj),<-gX];exact bg fun j hj=>if_pos hj
 rw[gX,eA,eS]at e0;have hl:=h.left;refine⟨fun bj=>?_,fun he=>?_⟩
 ·have fW:0<W:=by obtain⟨x,hx⟩:=D5 S bj;rw[h.weight];exact rQ (fS x hx).2 (j_ (fun k _=>hp k) hx)
  have hm:=h.miss bj;have hb:=kB (L:=L) h.weight fW;rw[<-hm]at hb;grind[DQ]
 ·subst he;simp only[vw]at e0;refine⟨?_,by omega⟩;refine bg fun j hj=>?_;rw[h.is j (by simpa using hj)];grind
theorem bH.tiles{n}{r}{a}{A S}{L W}{m}(h:bH n Mn Mx Wt r a A S L W m)(hw:∀j,Mn j<=Mx j)(hp:∀j,0<=Wt j):
 ar a (List.range n)=min r (ar (fun j=>if 0<Wt j then Mx j else Mn j) (List.range n)):=by
 have hs:=h.sum hp;have hb:=h.bds hw hp;by_cases he:S=[];·have:=hs.2 he;have:=h.pos;omega
 grind[ar,kJ]
theorem BG  d  (hd:∀i,i<d.length->0<=d[i]?.getD 0):∀  c   m   Y,c<=d.length->0<=m->m<=(d.take c).sum->
 ∃X,gb d c m Y=X++Y/\X.length=c/\(∀i,i<c->0<=X[i]?.getD 0/\X[i]?.getD 0<=d[i]?.getD 0)/\X.sum=(d.take c).sum-m/\(∀i k,i<k->k<c->X[i]?.getD 0<d[i]?.getD 0->X[k]?.getD 0=0)/\(m=0->∀i,i<c->X[i]?.getD 0=d[i]?.getD 0)
 |0,m,Y,_,h0,hm=>⟨[],rfl,rfl,fun i hi=>by omega,by grind,fun i k _ hk=>by omega,fun _ i hi=>by omega⟩
 |c+1,m,Y,hc,h0,hm=>by
  have hx:=hd c (by omega);have ht:(d.take (c+1)).sum=(d.take c).sum+d[c]?.getD 0:=by rw[ip (by omega),di (by omega),Q5];simp only[List.sum_cons,List.sum_nil,Q6];omega
  have _w:0<=(d.take c).sum:=by
   have:∀k,k<=d.length->0<=(d.take k).sum:=by
    intro k hk;induction k with
    |zero=>simp
    |succ k ih=>have h1:=ih (by omega);have h2:=hd k (by omega);rw[ip (by omega)];grind
   exact this c (by omega)
  obtain⟨x,hxe⟩:=af (d[c]?.getD 0);rw[hxe]at hx ht;obtain⟨X,e,hl,hb,hs,hk,hz⟩:=BG d hd c (m-min m x) ((x-min m x)::Y) (by omega) (by omega) (by omega);refine⟨X++[x-min m x],by grind[gb],by simp[hl],?_,?_,?_,?_⟩;·grind
  all_goals grind
end
theorem Ob(F:List Int)(bx fb fo fc:Nat)(W:World)(hb:W.cell? (aq bx 0)=some (.slice (some (aq fb fo)) F.length fc))(hF:∀j,j<F.length->W.cell? (aq fb (fo+j))=some (Iq (F[j]?.getD 0)))(i k:Nat)(hi:i<F.length)(hk:k<F.length)(aO:F.length<=1099511627776):
 Cw 273 #[Iq i,Iq k,Pq bx] W fun e W'=>e=Rw (Iq (jQ (F[k]?.getD 0) (F[i]?.getD 0)))/\∃q os,W'=grow (W.drewN q) os:=by
 obtain⟨n,hn⟩:=af F.length;obtain⟨x,hx⟩:=af (F[i]?.getD 0);obtain⟨y,hy⟩:=af (F[k]?.getD 0);have c0:W.cell? (aq fb (fo+i))=some (Iq x):=by rw[hF i hi,hx]
 have c1:W.cell? (aq fb (fo+k))=some (Iq y):=by rw[hF k hk,hy]
 have sV:prog.follows .mixedOrders=true:=by kernel_rfl
 rw[hn]at hb hi hk aO;rw[hx,hy];have _d:(i:Int)<(n:Int):=by omega
 have KB:(k:Int)<(n:Int):=by omega
 obtain⟨z,hz⟩:=af (jQ y x);have HC:=qH<|fun m=>by have:=re y x (W.drewN m);rw[hz]at this;exact this
 rw[hz];clear hF hn hx hy hz;go_enter func273,ntmps273;go_wp2_with fail;go_quiet(first|(go_at_call 272;exact(HC _).mono (fun e w' h=>⟨h.1,_,h.2⟩)));go_wp2;go_ret;exact⟨rfl,_,#[],(grow_empty _).symm⟩
theorem QF(W:World)  o1 o2  :∃q os,((W.alloc o1).alloc o2).drew=grow (W.drewN q) os:=
 ⟨1,#[o1]++#[o2],by rw[alloc_eq_grow,alloc_eq_grow,grow_grow];rfl⟩
theorem N9(n bx wb wo wc:Nat)(W:World)(hb:W.cell? (aq bx 0)=some (.slice (some (aq wb wo)) n wc))(i k:Nat)(a1 a2 a3 b1 b2 b3:Int)
 (ca1:W.cell? (aq wb (wo+i*3))=some (Iq a1)) (ca2:W.cell? (aq wb (wo+i*3+1))=some (Iq a2)) (ca3:W.cell? (aq wb (wo+i*3+2))=some (Iq a3))
 (cb1:W.cell? (aq wb (wo+k*3))=some (Iq b1)) (cb2:W.cell? (aq wb (wo+k*3+1))=some (Iq b2)) (cb3:W.cell? (aq wb (wo+k*3+2))=some (Iq b3))
 (ha:0<=a2-a1/\a2-a1<=1073741824/\0<=a3/\a3<=1073741824) (sr:0<=b2-b1/\b2-b1<=1073741824/\0<=b3/\b3<=1073741824) (hi:i<n) (hk:k<n) (aO:n<=1099511627776) (sU:bx<W.heap.size) (hwb:wb<W.heap.size):
 Cw 271 #[Iq i,Iq k,Pq bx] W fun e W'=>e=Rw (Iq (jQ ((a2-a1)*b3) ((b2-b1)*a3)))/\∃q os,W'=grow (W.drewN q) os:=by
 have sV:prog.follows .mixedOrders=true:=by kernel_rfl
 have _d:(i:Int)<(n:Int):=by omega
 have KB:(k:Int)<(n:Int):=by omega
 obtain⟨da,hda⟩:=af (a2-a1);obtain⟨db,hdb⟩:=af (b2-b1);rw[hda]at ha⊢;rw[hdb]at sr⊢;obtain⟨p,hp⟩:=af (da*b3);obtain⟨q,hq⟩:=af (db*a3);have ql:0<=p/\p<=1152921504606846976:=by rw[<-hp];refine⟨kh ha.1 sr.2.2.1,?_⟩;exact ke (nu ha.2.1 sr.2.2.2 sr.2.2.1 (by omega)) (by decide)
 have hqb:0<=q/\q<=1152921504606846976:=by rw[<-hq];refine⟨kh sr.1 ha.2.2.1,?_⟩;exact ke (nu sr.2.1 ha.2.2.2 ha.2.2.1 (by omega)) (by decide)
 have w1:IntKind.i64.wrap da=da:=IntWalk.i64_in _ ⟨by omega,by omega⟩;have w2:IntKind.i64.wrap db=db:=IntWalk.i64_in _ ⟨by omega,by omega⟩;have w3:IntKind.i64.wrap p=p:=IntWalk.i64_in _ ⟨by omega,by omega⟩;have w4:IntKind.i64.wrap q=q:=IntWalk.i64_in _ ⟨by omega,by omega⟩;obtain⟨z,hz⟩:=af (jQ p q);have HC:=qH<|fun w'=>by have:=re p q w';rw[hz]at this;exact this
 rw[hp,hq,hz];clear hz ql hqb ha sr;go_enter func271,ntmps271;go_wp2_with fail;go_big_region;all_goals(go_wp2_with(go_at_call 272;refine(HC _).mono ?_;rintro e w5 ⟨rfl,rfl⟩))
 all_goals go_ret
 all_goals simp_all[QF]
theorem sR  x y  :jQ x y<0↔x<y:=by grind[jQ]
theorem Hc  x y  :-1<=jQ x y/\jQ x y<=1:=by grind[jQ]
def xf(F:Int->Int)(i k:Int):Prop:=F k<F i\/(F i=F k/\i<k)
theorem PV  F   D  :Ord (fun i k=>jQ (F k) (F i)) D (xf F)where
 lt:=fun x _ y _ h=>Or.inl ((sR _ _).1 h)
 ge:=fun x _ y _ Ay h=>by
  have h1:¬F x<F y:=fun h2=>h ((sR _ _).2 h2);by_cases e:F x=F y;·exact Or.inr ⟨e,Ay⟩
  ·exact Or.inl (by omega)
 trans:=fun x _ y _ z _ h1 h2=>by grind[xf]
 bd:=fun x _ y _=>Hc _ _
def AN(M V:Int->Int)(i k:Int):Prop:=M i*V k<M k*V i\/(M i*V k=M k*V i/\i<k)
theorem NQ{a b c u v w:Int}(hu:0<u)(hv:0<v)(hw:0<w)(h1:a*v<=b*u)(h2:b*w<=c*v):a*w<=c*u:=by
 have e1:a*v*w<=b*u*w:=lY h1 (by omega);have e2:b*w*u<=c*v*u:=lY h2 (by omega);have e3:a*w*v<=c*u*v:=by rw[h_ a w v,h_ c u v];refine ke e1 ?_;rw[h_ b u w];exact e2
 simp_all
theorem NS{a b c u v w:Int}(hu:0<u)(hv:0<v)(hw:0<w)(h1:a*v<=b*u)(h2:b*w<=c*v)(hs:a*v<b*u\/b*w<c*v):a*w<c*u:=by
 have e1:a*v*w<=b*u*w:=lY h1 (by omega);have e2:b*w*u<=c*v*u:=lY h2 (by omega);have e3:a*w*v<c*u*v:=by
  rw[h_ a w v,h_ c u v];rcases hs with hs|hs;·refine rQ (Q3 hs hw) ?_;grind
  ·refine Int.lt_of_le_of_lt e1 ?_;rw[h_ b u w];simp_all
 simp_all
theorem PQ  M V   D  (hV:∀i∈D,0<V i):Ord (fun i k=>jQ (M i*V k) (M k*V i)) D (AN M V)where
 lt:=fun x _ y _ h=>Or.inl ((sR _ _).1 h)
 ge:=fun x _ y _ Ay h=>by
  have h1:¬M y*V x<M x*V y:=fun h2=>h ((sR _ _).2 h2);by_cases e:M x*V y=M y*V x;·exact Or.inr ⟨e,Ay⟩
  ·exact Or.inl (by omega)
 trans:=fun x hx y hy z hz h1 h2=>by
  have l1:M x*V y<=M y*V x:=by rcases h1 with h|⟨h,_⟩<;>omega
  have l2:M y*V z<=M z*V y:=by rcases h2 with h|⟨h,_⟩<;>omega
  by_cases hs:M x*V y<M y*V x\/M y*V z<M z*V y;·exact Or.inl (NS (hV x hx) (hV y hy) (hV z hz) l1 l2 hs)
  ·have a1:¬M x*V y<M y*V x:=fun h=>hs (Or.inl h);have a2:¬M y*V z<M z*V y:=fun h=>hs (Or.inr h);have b1:x<y:=by rcases h1 with h|⟨_,h⟩;exact(a1 h).elim;exact h
   have b2:y<z:=by rcases h2 with h|⟨_,h⟩;exact(a2 h).elim;exact h
   have c1:=NQ (hV x hx) (hV y hy) (hV z hz) l1 l2;by_cases e:M x*V z=M z*V x;·exact Or.inr ⟨e,by omega⟩
   ·exact Or.inl (by omega)
 bd:=fun x _ y _=>Hc _ _
theorem JU(F:List Int)  bx fb fo fc blk   w0  (hb:w0.cell? (aq bx 0)=some (.slice (some (aq fb fo)) F.length fc)) (hF:∀j,j<F.length->w0.cell? (aq fb (fo+j))=some (Iq (F[j]?.getD 0))) (D:List Int) (hD:∀x∈D,∃j:Nat,x=j/\j<F.length) (aO:F.length<=1099511627776) (h1:bx≠blk) (h2:fb≠blk):
 Et 273 #[Pq bx] (fun i k=>jQ (F[k.toNat]?.getD 0) (F[i.toNat]?.getD 0)) D w0 blk:=by intro W hW x hx y hy;obtain⟨i,rfl,hi⟩:=hD x hx;obtain⟨k,rfl,hk⟩:=hD y hy;exact Ob F bx fb fo fc W (hW.cell hb (by grind)) (fun j hj=>hW.cell (hF j hj) (by grind)) i k hi hk aO
theorem JT  n bx wb wo wc blk  (Mn Mx Wt:Nat->Int)  w0  (hb:w0.cell? (aq bx 0)=some (.slice (some (aq wb wo)) n wc))
 (hW:∀j,j<n->w0.cell? (aq wb (wo+j*3))=some (Iq (Mn j))/\w0.cell? (aq wb (wo+j*3+1))=some (Iq (Mx j))/\w0.cell? (aq wb (wo+j*3+2))=some (Iq (Wt j)))
 (hR:∀j,j<n->0<=Mx j-Mn j/\Mx j-Mn j<=1073741824/\0<=Wt j/\Wt j<=1073741824) (D:List Int) (hD:∀x∈D,∃j:Nat,x=j/\j<n) (aO:n<=1099511627776) (h1:bx≠blk) (h2:wb≠blk) (s1:bx<w0.heap.size) (s2:wb<w0.heap.size):
 Et 271 #[Pq bx] (fun i k=>jQ ((Mx i.toNat-Mn i.toNat)*Wt k.toNat) ((Mx k.toNat-Mn k.toNat)*Wt i.toNat)) D w0 blk:=by intro W hg x hx y hy;obtain⟨i,rfl,hi⟩:=hD x hx;obtain⟨k,rfl,hk⟩:=hD y hy;exact N9 n bx wb wo wc W (hg.cell hb (by grind)) i k (Mn i) (Mx i) (Wt i) (Mn k) (Mx k) (Wt k) (hg.cell (hW i hi).1 (by grind)) (hg.cell (hW i hi).2.1 (by grind)) (hg.cell (hW i hi).2.2 (by grind)) (hg.cell (hW k hk).1 (by grind)) (hg.cell (hW k hk).2.1 (by grind)) (hg.cell (hW k hk).2.2 (by grind)) (hR i hi) (hR k hk) hi hk aO (zz007 s1 hg.size) (zz007 s2 hg.size)
