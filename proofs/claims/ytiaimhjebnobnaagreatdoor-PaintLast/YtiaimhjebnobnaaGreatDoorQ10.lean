import Derived.Test.YtiaimhjebnobnaaGreatDoorQ08
import Derived.Shelf.Abstract
import Derived.Shelf.SlSortCmp.QuietGrown
set_option linter.all false
set_option maxRecDepth 100000
set_option maxHeartbeats 16000000
namespace Go.Proofs.YtiaimhjebnobnaaGreatDoor
open Go.RowKit Go.Sort Go.Proofs.Tryz
def FE(g:Nat)(lb:Array Value)(cf:Int->Int->Int)(D:List Int)(w0:World)(blk:Nat):Prop:=
 ∀W,w0.grownBy W (some blk)->∀x∈D,∀y∈D,Cw g (#[Iq x,Iq y]++lb) W fun e W'=>e=Rw (Iq (cf x y))/\∃q os,W'=grow (W.drewN q) os
theorem lA  W   q   os  :Bt W (grow (W.drewN q) os):=
 ⟨rfl,rfl,rfl,by simp_all,fun k hk=>by show(W.heap++os)[k]?=_;grind⟩
theorem FE.ok{g}{lb}{cf}{D}{w0}{blk}(h:FE g lb cf D w0 blk):BO g lb cf D w0 blk:=
 fun W hW x hx y hy=>(h W hW x hx y hy).mono fun e W' ⟨he,q,os,hq⟩=>⟨he,by grind[lA]⟩
theorem UZ(M:List Int):M=[]\/∃M' y,M=M'++[y]:=by rcases List.eq_nil_or_concat M with h|⟨M',y,h⟩;all_goals grind
theorem PF(A M1 M2:List Int)  k  (hk:k<A.length) (h:(M1++M2).Perm (A.take k)):(M1++[A[k]?.getD 0]++M2).Perm (A.take (k+1)):=by grind[lf]
theorem PE{R:Int->Int->Prop}  M1 M2   x  (h:(M1++M2).Pairwise R) (h1:∀y∈M1,R y x) (h2:∀y∈M2,R x y):(M1++[x]++M2).Pairwise R:=by grind
def ly(w w':World)(blk off:Nat)(R:Int->Int->Prop)(P A S:List Int):Prop:=
 (∃M:List Int,M.Perm A/\M.Pairwise R/\bp w' blk off (P++M++S))/\w.grownBy w' (some blk)
theorem UQ(g:Nat)(lb:Array Value)(eg:∀args w,(callFunc g args).run prog w=.ok (.enter g args) w)(cf:Int->Int->Int)(D:List Int)(R:Int->Int->Prop)(hO:Ord cf D R)(w0:World)(blk off cap:Nat)(hcmp:FE g lb cf D w0 blk)(P A S:List Int)(w:World)(n a b:Nat)(hw0:w0.grownBy w (some blk))(h:bp w blk off (P++A++S))(hAD:∀x∈A,x∈D)(hasc:A.Pairwise (·<·))(hn:(P++A++S).length=n)(bY:n<=1099511627776)(ha:P.length=a)(hb:P.length+A.length=b):
 Cw 266 #[.slice (some (az blk off)) n cap,Iq a,Iq b,.func (.func g) #[] lb] w fun e w'=>e=Rw (.tuple #[])/\ly w w' blk off R P A S:=by
 have HR:=qH<|h;have HO:=qH<|hO;have Mz:=qH<|hw0;have Wa:=qH<|hcmp;have zt:=qH<|hAD;have _k:=qH<|hasc;have qT:prog.follows .mixedOrders=true:=by kernel_rfl
 have Ft:b<=n:=by rw[<-hb,<-hn];simp only[bm];omega
 have hb1:b<=a+A.length:=by omega
 have HN:Hid (P.length+A.length+S.length=n):=by show _=_;rw[<-hn];simp only[bm]
 have HA:=qH<|ha;go_enter func266,ntmps266;go_wp2;go_loopw[8] (fun i wr=>∃(u k:Nat) (M:List Int),i=Iq u/\a+k<=u/\u<=a+k/\1<=k/\(k<=A.length\/k=1)/\Hid (M.Perm (A.take k))/\Hid (M.Pairwise R)/\Hid (bp wr blk off (P++M++A.drop k++S))/\Hid (w.grownBy wr (some blk))) (fun i _=>b+2-(intOf i).toNat);case atStart=>
  refine⟨a+1,1,A.take 1,by go_num,by omega,by omega,by omega,Or.inr rfl,Rr _,?_,?_,ee _ _⟩;·show List.Pairwise R _;match A with
   |[]=>simp_all
   |x::l=>grind
  ·show bp _ _ _ _;have:=HR.out;rw[dt P,gU];omega
 case round=>
  obtain⟨u,k,M,rfl,Gw,SM,Ag,Gl,HM,HMP,hrow,fY⟩:=hrel;by_cases hlt:k<A.length
  ·have aN:(u:Int)<(b:Int):=by omega
   obtain⟨x,hx⟩:=ag (A[k]?.getD 0);have HX:=qH<|hx;have Sk:Hid (x∈D):=by show x∈D;rw[<-hx];exact zt _ (gu hlt)
   have _t:Hid (M.length=k):=by show _=_;rw[HM.length_eq,cX];omega
   have Wh:Hid (∀y∈M,y∈D/\y<x):=by intro y hy;obtain⟨t,ht,uf,e⟩:=kj (HM.mem_iff.1 hy);rw[<-e,<-hx];exact⟨zt _ (gu uf),lH _k ht hlt⟩
   have jj:Hid (bp wr blk off (P++M++[x]++[]++(A.drop (k+1)++S))):=by have:=hrow.out;rw[(lf A k hlt).2,hx]at this;show bp _ _ _ _;simpa[dt]using this
   go_wp2;go_loopw[9] (fun j wr=>∃(v:Nat) (M1 M2:List Int),j=Iq v/\a+M1.length<=v/\v<=a+M1.length/\M1.length<=k/\Hid (M=M1++M2)/\Hid (∀y∈M2,R x y)/\Hid (bp wr blk off (P++M1++[x]++M2++(A.drop (k+1)++S)))/\Hid (w.grownBy wr (some blk))) (fun j _=>(intOf j).toNat);case atStart=>exact⟨u,M,[],rfl,by rw[_t.out];omega,by rw[_t.out];omega,by rw[_t.out];omega,by grind,(fun y hy=>by cases hy),jj,fY⟩
   case round=>
    obtain⟨v,M1,M2,rfl,oB,sB,hvk,Sh,H2,kh,hgr2⟩:=hrel;have Ii:Hid ((∀y∈M1,R y x)->∃M',List.Perm M' (A.take (k+1))/\M'.Pairwise R/\(P++M1++[x]++M2++(A.drop (k+1)++S))=P++M'++A.drop (k+1)++S):=by
     intro h1;refine⟨M1++[x]++M2,?_,?_,by simp[dt]⟩;·have:=HM.out;rw[Sh.out]at this;have:=PF A M1 M2 k hlt this;rw[HX.out]at this;exact this
     ·have:=HMP.out;rw[Sh.out]at this;exact PE M1 M2 x this h1 H2
    rcases UZ M1 with rfl|⟨M',y,rfl⟩
    ·have hva:v=a:=by simp at oB sB;omega
     subst hva;obtain⟨M',d1,d2,d3⟩:=Ii (fun y hy=>by cases hy);have oA:Hid (bp wr blk off (P++M'++A.drop (k+1)++S)):=by have:=kh.out;rw[d3]at this;exact this
     have D1:=qH<|d1;have D2:=qH<|d2;have rp:=qH<|hgr2.out;go_wp2_with fail;go_quiet(fail);go_wp2;go_roundw;case rel=>exact⟨u+1,k+1,M',by go_num,by omega,by omega,by omega,Or.inl (by omega),D1,D2,oA.drewN _,grown_trans rp (Dc _ _ _)⟩
     case measure=>simp[intOf];omega
    ·have yw:(M'++[y]).length=M'.length+1:=by simp
     rw[yw]at oB sB hvk;obtain⟨q,hq⟩:=ag (a+M'.length);have hqv:q+1=v:=by omega
     have hvi:(v:Int)-1=(q:Int):=by omega
     have Sv:(a:Int)<(v:Int):=by omega
     have hvn:(v:Int)<(n:Int):=by omega
     have hqn:(q:Int)<(n:Int):=by omega
     have hwq:IntKind.i64.wrap (q:Int)=(q:Int):=IntWalk.i64_in _ ⟨by omega,by omega⟩;have Bz:(P++M').length=q:=by have:=HA.out;rw[bm];omega
     have HYM:Hid (y∈M):=by show y∈M;rw[Sh.out];simp
     have hdx:((P++M')++[y]++[x]++(M2++(A.drop (k+1)++S)))[q]?.getD 0=y:=by rw[<-Bz];exact(q_ _ _ _ _).1
     have hdy:((P++M')++[y]++[x]++(M2++(A.drop (k+1)++S)))[v]?.getD 0=x:=by rw[<-hqv,<-Bz];exact(q_ _ _ _ _).2
     have HL2:((P++M')++[y]++[x]++(M2++(A.drop (k+1)++S))).length=n:=by have h1:=_t.out;rw[Sh.out]at h1;have:=HN.out;simp only[bm,dq,e_,iA]at*;omega
     have hr1:bp wr blk off ((P++M')++[y]++[x]++(M2++(A.drop (k+1)++S))):=by have:=kh.out;simpa[dt]using this
     have c0:=cell_grown hr1.1 (by rw[(hr1.2 q (by omega)).1,hdx]);have c1:=cell_grown hr1.1 (by rw[(hr1.2 v (by omega)).1,hdy]);have yy:=fun n' os'=>
      Wa.out _ (grown_trans (grown_trans Mz hgr2) (grown_below (lA wr n' os'))) x Sk y (Wh y HYM).1;obtain⟨z,hz⟩:=ag (cf x y);have HZ:=qH<|hz;have HR1:=qH<|hr1;have HQV:Hid (q+1=v/\(P++M').length=q):=⟨hqv,Bz⟩;have HQ:=qH<|hq;have HDX:=qH<|hdx;have HDY:=qH<|hdy;have Wf:=qH<|HL2;rw[hz]at yy;clear hq hz hr1 Bz hqv hdx hdy HL2 yw kh;go_wp2_with fail;go_quiet_grown(first|(go_at_fn g;refine Calls.grown_of (yy _ _)));have HR2:Hid (bp (grow (wr.drewN nq) osq) blk off ((P++M')++[y]++[x]++(M2++(A.drop (k+1)++S)))):=HR1.below (lA _ _ _);have rp:Hid (w.grownBy (grow (wr.drewN nq) osq) (some blk)):=grown_trans hgr2 (grown_below (lA _ _ _));clear HR1 hgr2 c0 c1 yy;generalize grow (wr.drewN nq) osq=wc at HR2 rp⊢;clear nq osq;by_cases eG:z<0
     ·have hd:decide (z<0)=true:=by simp[eG]
      rw[hd];have MX:=HO.lt x Sk y (Wh y HYM).1 (by rw[HZ.out];exact eG);have H2':Hid (∀y'∈y::M2,R x y'):=by
       intro y' Xk;rcases km.1 Xk with rfl|h3;·exact MX
       ·exact H2 y' h3
      have zf7:Hid (M=M'++(y::M2)):=by show _=_;rw[Sh.out];simp
      have zqp:q<n:=by omega
      have zqG:v<n:=by omega
      have c0:wc.cell? (az blk (off+q))=some (Iq y):=by rw[(HR2.2 q (by rw[Wf.out];omega)).1,HDX.out]
      have f0:=(HR2.2 q (by rw[Wf.out];omega)).2;have c1:wc.cell? (az blk (off+v))=some (Iq x):=by rw[(HR2.2 v (by rw[Wf.out];omega)).1,HDY.out]
      have f1:=(HR2.2 v (by rw[Wf.out];omega)).2;have FH:Hid (bp ((wc.setCell (az blk (off+v)) (Iq y)).setCell (az blk (off+q)) (Iq x)) blk off (P++M'++[x]++(y::M2)++(A.drop (k+1)++S))):=by have:=nH HR2 v q (by rw[Wf.out];omega) (by rw[Wf.out];omega);rw[HDX.out,HDY.out,EL _ _ _ (by rw[Wf.out];omega) (by rw[Wf.out];omega)]at this;have oi:=wL (P++M') y x (M2++(A.drop (k+1)++S));rw[HQV.2,HQV.1]at oi;rw[oi]at this;show bp _ _ _ _;simpa[dt]using this
      have HG:Hid (w.grownBy ((wc.setCell (az blk (off+v)) (Iq y)).setCell (az blk (off+q)) (Iq x)) (some blk)):=
       grown_trans rp (grown_trans (fX _ _ _ _) (fX _ _ _ _));have hqv:q<v:=by have:=HQV.1;omega
      clear HR2 rp MX Ii;go_wp2;go_big_region;go_wp2;go_roundw;case rel=>exact⟨q,M',y::M2,rfl,by have:=HQ.out;omega,by have:=HQ.out;omega,by omega,zf7,H2',FH,gK HG⟩
      case measure=>simp[intOf];omega
     ·have hd:decide (z<0)=false:=by simp[eG]
      rw[hd];have MX:=HO.ge y (Wh y HYM).1 x Sk (Wh y HYM).2 (by rw[HZ.out];exact eG);obtain⟨M3,d1,d2,d3⟩:=Ii (by
       intro y' Xk;rcases jW.1 Xk with h3|h3;·have hp:=HMP.out;rw[Sh.out]at hp;have h4:=(lj.1 (lj.1 hp).1).2.2 y' h3 y (by simp);exact HO.trans y' (Wh y' (by rw[Sh.out];simp[h3])).1 y (Wh y HYM).1 x Sk h4 MX
       ·rw[sZ]at h3;subst h3;exact MX);have oA:Hid (bp wc blk off (P++M3++A.drop (k+1)++S)):=by have:=HR2.out;show bp _ _ _ _;rw[<-d3];simpa[dt]using this
      have D1:=qH<|d1;have D2:=qH<|d2;clear d1 d2 d3 HR2 Ii MX;go_wp2;go_roundw;case rel=>exact⟨u+1,k+1,M3,by go_num,by omega,by omega,by omega,Or.inl (by omega),D1,D2,oA,rp⟩
      case measure=>simp[intOf];omega
  ·have aN:¬(u:Int)<(b:Int):=by omega
   have oA:Hid (bp wr blk off (P++M++S)):=by have:=hrow.out;rw[zg (by omega)]at this;show bp _ _ _ _;simpa[dt]using this
   have HM':Hid (M.Perm A):=by have:=HM.out;rw[gV (by omega)]at this;exact this
   clear hrow HM;go_wp2;go_end0;exact⟨rfl,⟨M,HM',HMP,oA⟩,fY⟩
inductive gZ(R:Int->Int->Prop)(s:Nat):List Int->List Int->Prop
 |nil:gZ R s [] []
 |cons (T M L d:List Int):M.Perm T->M.Pairwise R->T.length<=s->(T.length=s\/L=[])->gZ R s L d->gZ R s (T++L) (M++d)
def zq(R:Int->Int->Prop)(s:Nat)(L1 Y:List Int):Prop:=∀L' d',gZ R s L' d'->gZ R s (L1++L') (Y++d')
theorem gZ.len{R}{s}{L d}(h:gZ R s L d):d.length=L.length:=by
 induction h with
 |nil=>rfl
 |cons T M L d hp _ _ _ _ ih=>rw[bm,bm,hp.length_eq,ih]
theorem gZ.mem{R}{s}{L d}(h:gZ R s L d):d.Perm L:=by
 induction h with
 |nil=>grind
 |cons T M L d hp _ _ _ _ ih=>grind
theorem gZ.split{R}{s}{L d}(h:gZ R s L d)(hs:s<d.length):∃T M L' d',L=T++L'/\d=M++d'/\M.Perm T/\M.Pairwise R/\T.length=s/\gZ R s L' d':=by
 cases h with
 |nil=>simp at hs
 |cons T M L d hp hw hl hf hr=>
  rcases hf with hf|rfl;·grind
  ·have:=hr.len;have:=hp.length_eq;grind
theorem gZ.one{R}{s}{L d}(h:gZ R s L d)(FC:0<s)(hs:d.length<=s):d.Perm L/\d.Pairwise R:=by
 cases h with
 |nil=>simp_all
 |cons T M L d hp hw hl hf hr=>
  have h1:=hr.len;have h2:=hp.length_eq;have:d=[]:=by
   rcases hf with hf|rfl;·simp only[bm]at hs;exact ni (by omega)
   ·grind
  grind
theorem gZ.single{R}{s}{L d}(hp:d.Perm L)(hw:d.Pairwise R)(hs:L.length<=s):gZ R s L d:=by have:=gZ.cons (R:=R) (s:=s) L d [] [] hp hw hs (Or.inr rfl) .nil;grind
theorem zq.nil{R}{s}:zq R s [] []:=fun _ _ h=>h
theorem zq.snoc{R}{s}{L1 Y T M}(h:zq R s L1 Y)(hp:M.Perm T)(hw:M.Pairwise R)(hs:T.length=s):zq R s (L1++T) (Y++M):=fun L' d' hr=>by rw[dt,dt];exact h _ _ (gZ.cons T M L' d' hp hw (by omega) (Or.inl hs) hr)
theorem H8(g:Nat)(lb:Array Value)(eg:∀args w,(callFunc g args).run prog w=.ok (.enter g args) w)(cf:Int->Int->Int)(D:List Int)(R:Int->Int->Prop)(hO:Ord cf D R)(w0:World)(blk off cap:Nat)(hcmp:FE g lb cf D w0 blk)(L:List Int)(w:World)(n:Nat)(hw0:w0.grownBy w (some blk))(h:bp w blk off L)(hD:∀x∈L,x∈D)(hasc:L.Pairwise (·<·))(hn:L.length=n)(bY:n<=1099511627776):
 Cw 255 #[.slice (some (az blk off)) n cap,Iq n,.func (.func g) #[] lb] w fun e w'=>e=Rw (.tuple #[])/\ly w w' blk off R [] L []:=by
 have HR:=qH<|h;have Mz:=qH<|hw0;have HD:=qH<|hD;have _k:=qH<|hasc;have HN:=qH<|hn;have CI:=qH<|
  fun P A S W a b h1 h2 h3 h4 h5 h6 h7=>UQ g lb eg cf D R hO w0 blk off cap hcmp P A S W n a b (grown_trans Mz h1) h2 h3 h4 h5 bY h6 h7;have CS:=qH<|
  fun P A B S W a m b h1 h2 h3 h4 h5 h6 h7 h8 h9 dI h11 h12 h13=>Jy g lb eg cf D R hO w0 blk off cap hcmp.ok (A.length+B.length) P A B S W n a m b (ai _) (grown_trans Mz h1) h2 h3 h4 h5 h6 h7 h8 h9 dI bY h11 h12 h13;go_enter func255,ntmps255;go_wp2;go_loopw[7,8] (fun i j wr=>∃(a b:Nat) (L1 T Y:List Int),i=Iq a/\j=Iq b/\b<=a+20/\a+20<=b/\a<=n/\Hid (a+T.length=n)/\Hid (Y.length=a)/\Hid (L=L1++T)/\Hid (zq R 20 L1 Y)/\Hid (bp wr blk off (Y++T))/\Hid (w.grownBy wr (some blk))) (fun i _ _=>n-(intOf i).toNat);case atStart=>exact⟨0,20,[],L,[],by go_num,by go_num,by omega,by omega,by omega,by grind,by show _=_;rfl,by show _=_;rfl,zq.nil,HR,ee _ _⟩
 case round=>
  obtain⟨a,b,L1,T,Y,rfl,rfl,hb1,hb2,han,HT,HY,HL,HDn,hrow,fY⟩:=hrel;by_cases Ft:b<=n
  ·have YU:(b:Int)<=(n:Int):=by omega
   have C:Hid (Cw 266 #[.slice (some (az blk off)) n cap,Iq a,Iq b,.func (.func g) #[] lb] wr fun e w'=>e=Rw (.tuple #[])/\ly wr w' blk off R Y (T.take 20) (T.drop 20)):=by
    have:=HT.out;have:=HY.out;refine CI Y (T.take 20) (T.drop 20) wr a b fY ?_ ?_ ?_ ?_ HY ?_;·rw[dt,gU];exact hrow
    ·intro x hx;exact HD x (by rw[HL.out];grind)
    ·have h1:=_k.out;rw[HL.out]at h1;grind
    ·grind
    ·grind
   go_wp2_with fail;refine C.mono ?_;rintro e w2 ⟨rfl,⟨M,m1,m2,r2⟩,g2⟩;have HT':Hid (b+(T.drop 20).length=n):=by show _=_;have:=HT.out;rw[dq];omega
   have ziT:(T.take 20).length=20:=by have:=HT.out;rw[cX];omega
   have HY':Hid ((Y++M).length=b):=by show _=_;have:=HY.out;rw[bm,m1.length_eq];omega
   have HL':Hid (L=(L1++T.take 20)++T.drop 20):=by show _=_;rw[dt,gU];exact HL
   have XO:=qH<|HDn.snoc m1 m2 ziT;have jj:=qH<|r2;have pV:=qH<|grown_trans fY g2;go_wp2;go_roundw;case rel=>exact⟨b,b+20,L1++T.take 20,T.drop 20,Y++M,rfl,by go_num,by omega,by omega,Ft,HT',HY',HL',XO,jj,pV⟩
   case measure=>simp[intOf];omega
  ·have YU:¬(b:Int)<=(n:Int):=by omega
   have C:Hid (Cw 266 #[.slice (some (az blk off)) n cap,Iq a,Iq n,.func (.func g) #[] lb] wr fun e w'=>e=Rw (.tuple #[])/\ly wr w' blk off R Y T []):=by
    have:=HT.out;have:=HY.out;refine CI Y T [] wr a n fY (by simpa using hrow.out) ?_ ?_ ?_ HY (by omega);·intro x hx;exact HD x (by rw[HL.out];grind)
    ·have h1:=_k.out;rw[HL.out]at h1;grind
    ·grind
   go_wp2_with fail;refine C.mono ?_;rintro e w2 ⟨rfl,⟨M,m1,m2,r2⟩,g2⟩;have HRn:Hid (gZ R 20 L (Y++M)):=by show gZ R 20 L (Y++M);rw[HL.out];exact HDn T M (gZ.single m1 m2 (by have:=HT.out;omega))
   have jj:Hid (bp w2 blk off (Y++M)):=by have:=r2;show bp _ _ _ _;simpa using this
   have pV:=qH<|grown_trans fY g2;go_wp2;go_loopw[6] (fun i wr=>∃(s:Nat) (d:List Int),i=Iq s/\20<=s/\s<=2*n+20/\Hid (gZ R s L d)/\Hid (bp wr blk off d)/\Hid (w.grownBy wr (some blk))) (fun i _=>n-(intOf i).toNat);case atStart=>grind
   case round=>
    obtain⟨s,d,rfl,zqv,xj,HRn2,kh,hgr2⟩:=hrel;by_cases lq:s<n
    ·have ziP:(s:Int)<(n:Int):=by omega
     obtain⟨t,ht⟩:∃t:Nat,2*s=t:=⟨_,rfl⟩;have hti:(2:Int)*(s:Int)=(t:Int):=by omega
     have htj:(s:Int)*(2:Int)=(t:Int):=by omega
     go_wp2;go_loopw[7,8] (fun i j wr=>∃(a b:Nat) (L1 L' Y d':List Int),i=Iq a/\j=Iq b/\b<=a+t/\a+t<=b/\a<=n/\Hid (a+d'.length=n)/\Hid (Y.length=a)/\Hid (L=L1++L')/\Hid (zq R t L1 Y)/\Hid (gZ R s L' d')/\Hid (bp wr blk off (Y++d'))/\Hid (w.grownBy wr (some blk))) (fun i _ _=>n-(intOf i).toNat);case atStart=>exact⟨0,t,[],L,[],d,by go_num,rfl,by omega,by omega,by omega,by show _=_;have:=HN.out;have:=HRn2.len;omega,by show _=_;rfl,by show _=_;rfl,zq.nil,HRn2,kh,hgr2⟩
     case round=>
      obtain⟨a,b,L1,L',Y,d',rfl,rfl,hb1,hb2,han,HT,HY,HL,HDn,Nq,oA,rp⟩:=hrel;by_cases Ft:b<=n
      ·have YU:(b:Int)<=(n:Int):=by omega
       obtain⟨T1,M1,L2,d2,e1,e2,p1,w1,l1,r1⟩:=Nq.split (by have:=HT.out;omega);have Y1:s<=d2.length:=by have h1:=HT.out;rw[e2,bm,p1.length_eq]at h1;omega
       obtain⟨T2,M2,L3,d3,f1,f2,p2,w2',l2,r2⟩:∃T M L' d',L2=T++L'/\d2=M++d'/\M.Perm T/\M.Pairwise R/\T.length=s/\gZ R s L' d':=by
        by_cases hq:s<d2.length;·exact r1.split hq
        ·have ho:=r1.one (by omega) (by omega);exact⟨L2,d2,[],[],by simp,by simp,ho.1,ho.2,by have:=r1.len;omega,.nil⟩
       subst e1;subst e2;subst f1;subst f2;obtain⟨m,hm⟩:∃m:Nat,a+s=m:=⟨_,rfl⟩;have Lb:(a:Int)+(s:Int)=(m:Int):=by omega
       have hL:=HL.out;have _Y:=_k.out;rw[hL]at _Y;have hA1:=(lj.1 _Y).2.1;have C:Hid (Cw 267 #[.slice (some (az blk off)) n cap,Iq a,Iq m,Iq b,.func (.func g) #[] lb] wr fun e w'=>e=Rw (.tuple #[])/\ux wr w' blk off R Y M1 M2 d3):=by
        have h1:=HT.out;have h2:=HY.out;have q1:=p1.length_eq;have q2:=p2.length_eq;simp only[bm]at h1;refine CS Y M1 M2 d3 wr a m b rp (by simpa[dt]using oA.out) ?_ ?_ w1 w2' ?_ (by omega) (by omega) (by simp only[bm];omega) HY (by omega) (by omega);·intro x hx;exact HD x (by rw[hL];simp[p1.mem_iff.1 hx])
        ·intro x hx;exact HD x (by rw[hL];simp[p2.mem_iff.1 hx])
        ·intro x hx y hy;exact(lj.1 hA1).2.2 x (p1.mem_iff.1 hx) y (jW.2 (Or.inl (p2.mem_iff.1 hy)))
       have KP:Hid (M1.Perm T1/\M2.Perm T2/\T1.length=s/\T2.length=s):=⟨p1,p2,l1,l2⟩;have KR:=qH<|r2;go_wp2_with fail;refine C.mono ?_;rintro e w2 ⟨rfl,⟨M,m1,m2,r2⟩,g2⟩;have HT':Hid (b+d3.length=n):=by show _=_;have h1:=HT.out;have q1:=KP.1.length_eq;have q2:=KP.2.1.length_eq;have q3:=KP.2.2;simp only[bm]at h1;omega
       have HY':Hid ((Y++M).length=b):=by show _=_;have h1:=HY.out;have q1:=KP.1.length_eq;have q2:=KP.2.1.length_eq;have q3:=KP.2.2;rw[bm,m1.length_eq,bm];omega
       have HL':Hid (L=(L1++(T1++T2))++L3):=by show _=_;rw[HL.out];simp[dt]
       have XO:=qH<|HDn.snoc (m1.trans (KP.1.append KP.2.1)) m2 (by have:=KP.2.2;rw[bm];omega);have jj:=qH<|r2;have pV:=qH<|grown_trans rp g2;go_wp2;go_roundw;case rel=>exact⟨b,b+t,L1++(T1++T2),L3,Y++M,d3,rfl,by go_num,by omega,by omega,Ft,HT',HY',HL',XO,KR,jj,pV⟩
       case measure=>simp[intOf];omega
      ·have YU:¬(b:Int)<=(n:Int):=by omega
       obtain⟨m,hm⟩:∃m:Nat,a+s=m:=⟨_,rfl⟩;have Lb:(a:Int)+(s:Int)=(m:Int):=by omega
       by_cases Dn:m<n
       ·have zir:(m:Int)<(n:Int):=by omega
        obtain⟨T1,M1,L2,d2,e1,e2,p1,w1,l1,r1⟩:=Nq.split (by have:=HT.out;omega);subst e1;subst e2;have Y1:d2.length<=s:=by have h1:=HT.out;rw[bm,p1.length_eq]at h1;omega
        obtain⟨p2,w2'⟩:=r1.one (by omega) Y1;have hL:=HL.out;have _Y:=_k.out;rw[hL]at _Y;have hA1:=(lj.1 _Y).2.1;have C:Hid (Cw 267 #[.slice (some (az blk off)) n cap,Iq a,Iq m,Iq n,.func (.func g) #[] lb] wr fun e w'=>e=Rw (.tuple #[])/\ux wr w' blk off R Y M1 d2 []):=by
         have h1:=HT.out;have h2:=HY.out;have q1:=p1.length_eq;simp only[bm]at h1;refine CS Y M1 d2 [] wr a m n rp (by simpa[dt]using oA.out) ?_ ?_ w1 w2' ?_ (by omega) (by omega) (by simp only[bm,iA];omega) HY (by omega) (by omega);·intro x hx;exact HD x (by rw[hL];simp[p1.mem_iff.1 hx])
         ·intro x hx;exact HD x (by rw[hL];simp[p2.mem_iff.1 hx])
         ·intro x hx y hy;exact(lj.1 hA1).2.2 x (p1.mem_iff.1 hx) y (p2.mem_iff.1 hy)
        have KE:Hid (∀M:List Int,M.Perm (M1++d2)->M.Pairwise R->gZ R t L (Y++M)):=by intro M m1 m2;have h1:=HT.out;rw[hL];refine HDn _ _ (gZ.single (m1.trans (p1.append p2)) m2 ?_);have q1:=p1.length_eq;have q2:=p2.length_eq;simp only[bm]at*;omega
        clear p1 p2 l1 r1 w1 w2' hm hL _Y hA1 Y1;go_wp2_with fail;refine C.mono ?_;rintro e w2 ⟨rfl,⟨M,m1,m2,r2⟩,g2⟩;have KR:=qH<|KE M m1 m2;have jj:Hid (bp w2 blk off (Y++M)):=by have:=r2;show bp _ _ _ _;simpa using this
        have pV:=qH<|grown_trans rp g2;clear m1 m2 r2 g2 C oA rp HT HY HL HDn Nq KE;go_wp2;go_roundw;case rel=>exact⟨t,Y++M,rfl,by omega,by omega,KR,jj,pV⟩
        case measure=>simp[intOf];omega
       ·have zir:¬(m:Int)<(n:Int):=by omega
        have KR:Hid (gZ R t L (Y++d')):=by show gZ R t L (Y++d');have h1:=HT.out;obtain⟨p2,w2'⟩:=Nq.one (by omega) (by omega);rw[HL.out];exact HDn _ _ (gZ.single p2 w2' (by have:=p2.length_eq;omega))
        clear HT HY HL HDn Nq hm;go_wp2;go_roundw;case rel=>exact⟨t,Y++d',rfl,by omega,by omega,KR,oA,rp⟩
        case measure=>simp[intOf];omega
    ·have ziP:¬(s:Int)<(n:Int):=by omega
     have HF:=qH<|HRn2.one (by omega) (by have:=HRn2.len;have:=HN.out;omega);go_wp2;go_end0;exact⟨rfl,⟨d,HF.1,HF.2,by simpa using kh.out⟩,hgr2⟩
theorem m9(g:Nat)(lb:Array Value)(eg:∀args w,(callFunc g args).run prog w=.ok (.enter g args) w)(cf:Int->Int->Int)(D:List Int)(R:Int->Int->Prop)(hO:Ord cf D R)(w0:World)(blk off cap:Nat)(hcmp:FE g lb cf D w0 blk)(L:List Int)(w:World)(n:Nat)(hw0:w0.grownBy w (some blk))(h:bp w blk off L)(hD:∀x∈L,x∈D)(hasc:L.Pairwise (·<·))(hn:L.length=n)(bY:n<=1099511627776):
 Cw 241 #[.slice (some (az blk off)) n cap,.func (.func g) #[] lb] w fun e w'=>e=Rw (.tuple #[])/\ly w w' blk off R [] L []:=by
 have C:=qH<|
  H8 g lb eg cf D R hO w0 blk off cap hcmp L w n hw0 h hD hasc hn bY;clear h hO hw0 hcmp hD hasc hn;go_enter func241,ntmps241;go_wp2_with fail;refine C.mono ?_;rintro e w2 ⟨rfl,s2⟩;have S2:=qH<|s2;clear s2 C;go_wp2;go_end0;exact⟨rfl,S2⟩
theorem UR(fv:Value)(w:World):
 Cw 266 #[.slice none 0 0,Iq 0,Iq 0,fv] w fun e w'=>e=Rw (.tuple #[])/\w'=w:=by
 go_enter func266,ntmps266;go_wp2;go_loopw[8] (fun i wr=>i=Iq 1/\wr=w) (fun i _=>0);case atStart=>grind
 case round=>obtain⟨rfl,rfl⟩:=hrel;go_wp2;go_end0;simp_all
theorem H_(fv:Value)(w:World):
 Cw 255 #[.slice none 0 0,Iq 0,fv] w fun e w'=>e=Rw (.tuple #[])/\w'=w:=by
 go_enter func255,ntmps255;go_wp2;go_loopw[7,8] (fun i j wr=>i=Iq 0/\j=Iq 20/\wr=w) (fun i _ _=>0);case atStart=>grind
 case round=>
  obtain⟨rfl,rfl,rfl⟩:=hrel;go_wp2_with fail;refine(UR fv wr).mono ?_;rintro e w2 ⟨rfl,rfl⟩;go_wp2;go_loopw[6] (fun i wr=>i=Iq 20/\wr=w2) (fun i _=>0);case atStart=>grind
  case round=>obtain⟨rfl,rfl⟩:=hrel;go_wp2;go_end0;simp_all
theorem wG(fv:Value)(w:World):
 Cw 241 #[.slice none 0 0,fv] w fun e w'=>e=Rw (.tuple #[])/\w'=w:=by go_enter func241,ntmps241;go_wp2_with fail;refine(H_ fv w).mono ?_;rintro e w2 ⟨rfl,rfl⟩;go_wp2;go_end0;grind
def kN(x y:Int):Int:=if x<y then-1 else if y<x then 1 else 0
theorem vw(x:Int)(w:World):
 Cw 256 #[Iq x] w fun e w'=>e=Rw (.bool false)/\w'=w:=by go_enter func256,ntmps256;go_wp2;go_ret;simp_all
theorem sf(x y:Int)(w:World):
 Cw 243 #[Iq x,Iq y] w fun e w'=>e=Rw (Iq (kN x y))/\w'=w:=by
 obtain⟨z,hz⟩:=ag (kN x y);have HZ:=qH<|hz;rw[hz];clear hz;by_cases h1:x<y
 ·have fs:z=-1:=by have:=HZ.out;unfold kN at this;rw[if_pos h1]at this;exact this.symm
  subst fs;go_enter func243,ntmps243;go_wp2_with(refine(vw _ _).mono ?_;rintro e w2 ⟨rfl,rfl⟩);try go_wp2
  go_ret;simp_all
 ·by_cases h2:y<x
  ·have fs:z=1:=by have:=HZ.out;unfold kN at this;rw[if_neg h1,if_pos h2]at this;exact this.symm
   subst fs;go_enter func243,ntmps243;go_wp2_with(refine(vw _ _).mono ?_;rintro e w2 ⟨rfl,rfl⟩);go_ret;simp_all
  ·have fs:z=0:=by have:=HZ.out;unfold kN at this;rw[if_neg h1,if_neg h2]at this;exact this.symm
   subst fs;go_enter func243,ntmps243;go_wp2_with(refine(vw _ _).mono ?_;rintro e w2 ⟨rfl,rfl⟩);go_ret;simp_all
def gb(d:List Int):Nat->Int->List Int->List Int
 |0,_,Y=>Y
 |c+1,m,Y=>gb d c (m-min m (d[c]?.getD 0)) ((d[c]?.getD 0-min m (d[c]?.getD 0))::Y)
theorem Lq{W}{blk off}{d}(h:bp W blk off d)  i   y  (hi:i<d.length):bp (W.setCell (az blk (off+i)) (Iq y)) blk off (d.set i y):=by
 refine⟨by simpa using h.1,fun k hk=>?_⟩;rw[Rs]at hk;simp only[ij];refine⟨?_,(h.2 k hk).2⟩;have hc:=(h.2 k hk).1;by_cases h1:k=i;·subst h1;rw[oJ _ _ _ (by grind)];simp[hk]
 ·rw[eu _ _ _ _ (fun e=>h1 (by grind)),hc,wZ (fun e=>h1 e.symm)]
theorem VC(X:List Int)  x y   Y  :(X++[x]++Y).set X.length y=X++(y::Y):=by grind
theorem z'(d:List Int)(blk off cap:Nat)(rG:Int)(w:World)(n:Nat)(h:bp w blk off d)(hn:d.length=n)(bY:n<=1099511627776)(hd:∀x∈d,0<=x/\x<=1099511627776)(hm:0<=rG/\rG<=1099511627776):
 Cw 205 #[.slice (some (az blk off)) n cap,Iq rG] w fun e w'=>e=Rw (.tuple #[])/\bp w' blk off (gb d n rG [])/\w.grownBy w' (some blk):=by
 have HR:=qH<|h;have HN:=qH<|hn;have HD:=qH<|hd;have og:=hm.1;have hm2:=hm.2;clear h hn hd hm;go_enter func205,ntmps205;go_wp2;go_loopw[1,4] (fun m i wr=>∃(c:Nat) (mu iv:Int) (Y:List Int),m=Iq mu/\i=Iq iv/\iv<=(c:Int)-1/\(c:Int)-1<=iv/\c<=n/\0<=mu/\mu<=1099511627776/\Hid (gb d c mu Y=gb d n rG [])/\Hid (c+Y.length=n)/\Hid (bp wr blk off (d.take c++Y))/\Hid (w.grownBy wr (some blk))) (fun _ i _=>(intOf i+1).toNat);case atStart=>exact⟨n,rG,(n:Int)-1,[],rfl,by go_num,by omega,by omega,ai _,og,hm2,by show _=_;rfl,by show _=_;rfl,by show bp _ _ _ _;rw[lZ,gV (by rw[HN.out];omega)];exact HR,ee _ _⟩
 case round=>
  obtain⟨c,mu,iv,Y,rfl,rfl,h1,h2,hcn,Gw,SM,HG,HC,hrow,fY⟩:=hrel;match c with
  |0=>
   have kE:¬(0:Int)<=iv:=by omega
   go_wp2;go_end0;exact⟨rfl,by have:=hrow.out;have h0:=HG.out;simp_all[gb],fY⟩
  |c+1=>
   have fZ:(0:Int)<=iv:=by omega
   obtain rfl:iv=(c:Int):=by omega
   obtain⟨x,hx⟩:=ag (d[c]?.getD 0);have WS:c<d.length:=by rw[HN.out];omega
   have xI:=HD x (by grind);have sC:=xI.1;have nD:=xI.2;have zpj:(c:Int)<(n:Int):=by omega
   have htn:=(lf d c WS).1;rw[hx]at htn;have hr1:=hrow.out;rw[htn]at hr1;have Bz:(d.take c).length=c:=by rw[cX];omega
   have hL:(d.take c++[x]++Y).length=n:=by have:=HC.out;simp only[bm,cX,e_,iA];omega
   have b9:(d.take c++[x]++Y)[c]?.getD 0=x:=by
    have:(d.take c++[x]++Y)[(d.take c).length]?.getD 0=x:=by simp[dt]
    rw[Bz]at this;exact this
   have c0:wr.cell? (az blk (off+c))=some (Iq x):=by rw[(hr1.2 c (by omega)).1,b9]
   have f0:=(hr1.2 c (by omega)).2;obtain⟨bk,WP⟩:=ag (min mu x);have FH:Hid (bp (wr.setCell (az blk (off+c)) (Iq (x-bk))) blk off (d.take c++((x-bk)::Y))):=by have:=Lq hr1 c (x-bk) (by omega);have e:=VC (d.take c) x (x-bk) Y;rw[Bz]at e;rw[e]at this;exact this
   have HG':Hid (gb d c (mu-bk) ((x-bk)::Y)=gb d n rG []):=by have:=HG.out;simp only[gb]at this;rw[hx,WP]at this;exact this
   have HC':Hid (c+((x-bk)::Y).length=n):=by show _=_;have:=HC.out;simp only[e_];omega
   have HGr:Hid (w.grownBy (wr.setCell (az blk (off+c)) (Iq (x-bk))) (some blk)):=grown_trans fY (fX _ _ _ _);have hb1:bk<=mu:=by omega
   have hb2:bk<=x:=by omega
   have qR:0<=bk:=by omega
   have Pb:bk=mu/\mu<=x\/bk=x/\x<mu:=by omega
   clear hx xI htn hr1 Bz hL b9 hrow fY HG HC WP WS;rcases Pb with⟨rfl,hle⟩|⟨rfl,hle⟩
   ·rw[Int.sub_self]at HG';go_wp2;go_roundw;case rel=>grind
    case measure=>simp[intOf]<;>omega
   ·rw[Int.sub_self]at HG' HC' FH HGr;go_wp2;go_roundw;case rel=>grind
    case measure=>simp[intOf]<;>omega
section
def aG(f:Nat->Int)(l:List Nat):Int:=(l.map f).sum
theorem qJ  f  :aG f []=0:=rfl
theorem cm  f   j   l  :aG f (j::l)=f j+aG f l:=by simp[aG]
theorem na  f   l m  :aG f (l++m)=aG f l+aG f m:=by simp[aG]
theorem dR  f   l   j  :aG f (l++[j])=aG f l+f j:=by simp[aG]
theorem nZ{f}{l m}(h:l.Perm m):aG f l=aG f m:=by
 induction h with
 |nil=>rfl
 |cons x _ ih=>grind[cm]
 |swap x y l=>simp only[cm];omega
 |trans _ _ a b=>omega
theorem lM{f g}{l}(h:∀j∈l,f j<=g j):aG f l<=aG g l:=by
 induction l with
 |nil=>exact li _
 |cons a l ih=>grind[cm]
theorem bG{f g}{l}(h:∀j∈l,f j=g j):aG f l=aG g l:=
 Int.le_antisymm (lM fun j hj=>Int.le_of_eq (h j hj)) (lM fun j hj=>Int.le_of_eq (h j hj).symm)
theorem gD  f g   l  :aG (fun j=>f j+g j) l=aG f l+aG g l:=by
 induction l with
 |nil=>rfl
 |cons a l ih=>grind[cm]
theorem gE  c   f   l  :aG (fun j=>c*f j) l=c*aG f l:=by
 induction l with
 |nil=>simp[aG]
 |cons a l ih=>grind[cm]
theorem cW{f}{l}(h:∀j∈l,0<=f j):0<=aG f l:=by
 induction l with
 |nil=>exact li _
 |cons a l ih=>grind[cm]
theorem fP{f}{l}{b}(h:∀j∈l,f j<=b):aG f l<=(l.length:Int)*b:=by
 induction l with
 |nil=>simp[aG]
 |cons a l ih=>have:=h a (by simp);have:=ih fun j hj=>h j (by simp[hj]);rw[cm,e_,Int.natCast_add,JG];omega
theorem jS{f}{l}(h:∀j∈l,0<=f j){i}(hi:i∈l):f i<=aG f l:=by
 induction l with
 |nil=>grind
 |cons a l ih=>have h1:=h a (by simp);have h2:0<=aG f l:=cW fun j hj=>h j (by simp[hj]);grind[cm]
theorem nc{f}{l A}(hl:l.Nodup)(hA:A.Nodup)(hs:∀j∈A,j∈l)(h0:∀j∈l,j∉A->f j=0):aG f l=aG f A:=by
 induction A generalizing l with
 |nil=>
  rw[qJ];have:=bG fun j hj=>h0 j hj (by simp);rw[this];clear this h0 hs hl;induction l with
  |nil=>rfl
  |cons a l ih=>grind[cm]
 |cons a A ih=>have ha:=hs a (by simp);have hp:=List.perm_cons_erase ha;rw[nZ hp,cm,cm];grind
variable{Mn Mx Wt:Nat->Int}
theorem KS{A B}{i}{L W}(hm:∀j,0<=Mx j-Mn j)(hA:∀j∈A,0<Wt j/\(Mx j-Mn j)*Wt i<=(Mx i-Mn i)*Wt j)(hi:0<Wt i)(hB:∀j∈B,0<Wt j)(hW:W=aG Wt (i::B))(hle:(Mx i-Mn i)*W<=L*Wt i):
 0<=L-(Mx i-Mn i)/\∀j∈A++[i],(Mx j-Mn j)*(W-Wt i)<=(L-(Mx i-Mn i))*Wt j:=by
 have su:=cW fun j hj=>JH (hB j hj);rw[cm]at hW;have Lb:=hm i;have h1:(Mx i-Mn i)*Wt i<=(Mx i-Mn i)*W:=Ru (by omega) Lb;have h2:=XJ (jl h1 hle) hi;have cK:0<=W-Wt i:=by omega
 have _9:(Mx i-Mn i)*(W-Wt i)<=(L-(Mx i-Mn i))*Wt i:=by rw[Int.mul_sub (Mx i-Mn i) W (Wt i),Int.sub_mul L (Mx i-Mn i) (Wt i)];omega
 refine⟨by omega,fun j hj=>?_⟩;rcases jW.1 hj with hj|hj
 ·obtain⟨Uu,IZ⟩:=hA j hj;have e1:=kq IZ cK;have e2:(Mx i-Mn i)*(W-Wt i)*Wt j<=(L-(Mx i-Mn i))*Wt i*Wt j:=kq _9 (by omega);have e3:(Mx j-Mn j)*(W-Wt i)*Wt i<=(L-(Mx i-Mn i))*Wt j*Wt i:=by rw[fU (Mx j-Mn j),fU (L-(Mx i-Mn i))];refine jl e1 ?_;rw[fU (Mx i-Mn i)];exact e2
  simp_all
 grind
theorem LG{B}{i}{L W}(hi:0<Wt i)(hW:0<W)(hB:∀k∈B,0<Wt k/\(Mx i-Mn i)*Wt k<=(Mx k-Mn k)*Wt i)(Di:L*Wt i<(Mx i-Mn i)*W):∀k∈i::B,L*Wt k<(Mx k-Mn k)*W:=by
 intro k hk;rcases km.1 hk with rfl|hk;·exact Di
 ·obtain⟨h1,h2⟩:=hB k hk;have e1:=JI Di h1;have e2:(Mx i-Mn i)*Wt k*W<=(Mx k-Mn k)*Wt i*W:=kq h2 (by omega);have e3:L*Wt k*Wt i<(Mx k-Mn k)*W*Wt i:=by rw[fU L,fU (Mx k-Mn k)];refine qP e1 ?_;rw[fU (Mx i-Mn i)];exact e2
  simp_all
theorem lE{S}{L W}(hW:W=aG Wt S)(fZ:0<W):0<=L-aG (fun j=>L*Wt j/W) S/\L-aG (fun j=>L*Wt j/W) S<S.length:=by
 have e:aG (fun j=>L*Wt j) S=W*aG (fun j=>L*Wt j/W) S+aG (fun j=>L*Wt j %W) S:=by rw[<-gE,<-gD];exact bG fun j _=>(Int.mul_ediv_add_emod _ _).symm
 rw[gE,<-hW]at e;have f0:0<=aG (fun j=>L*Wt j %W) S:=cW fun j _=>E_ _ (by omega);have f1:aG (fun j=>L*Wt j %W) S<=(S.length:Int)*(W-1):=fP fun j _=>by have:=JJ (L*Wt j) fZ;omega
 have hS:S≠[]:=by intro h;rw[h,qJ]at hW;omega
 have hS1:(0:Int)<S.length:=by have:=l6.2 hS;omega
 obtain⟨q,hq⟩:=ag (aG (fun j=>L*Wt j/W) S);rw[hq]at e⊢;have e2:W*(L-q)=aG (fun j=>L*Wt j %W) S:=by rw[Int.mul_sub,kt W L];omega
 refine⟨?_,?_⟩;·exact Int.le_of_mul_le_mul_left (by omega) fZ
 ·refine Int.lt_of_mul_lt_mul_left (a:=W) ?_ (by omega);grind
structure cD(n:Nat)(Mn Mx Wt:Nat->Int)(r:Int)(a:Nat->Int)(A S:List Nat)(L W:Int)(m:Nat):Prop where
 perm:(A++S).Perm ((List.range n).filter fun j=>decide (0<Wt j))
 left:L=r-aG Mn (List.range n)-aG (fun j=>Mx j-Mn j) A
 pos:0<=L
 weight:W=aG Wt S
 full:∀j∈A,(Mx j-Mn j)*W<=L*Wt j
 open_:∀j∈S,L*Wt j<(Mx j-Mn j)*W
 miss:S≠[]->(m:Int)=L-aG (fun j=>L*Wt j/W) S
 none_:S=[]->m=0
 sorted:S.Pairwise fun i k=>L*Wt k %W<L*Wt i %W\/(L*Wt i %W=L*Wt k %W/\i<k)
 is:∀j,j<n->a j=if j∈A then Mx j else if j∈S then Mn j+L*Wt j/W+(if j∈S.take m then 1 else 0)else Mn j
theorem cD.facts{n}{r}{a}{A S}{L W}{m}(h:cD n Mn Mx Wt r a A S L W m):
 A.Nodup/\S.Nodup/\(∀j∈A,j∉S)/\(∀j∈A,j<n/\0<Wt j)/\(∀j∈S,j<n/\0<Wt j)/\(∀j,j<n->0<Wt j->j∈A\/j∈S):=by
 have hf:((List.range n).filter fun j=>decide (0<Wt j)).Nodup:=zi.filter _;have hn:=h.perm.nodup_iff.2 hf;rw[Rn]at hn;have hm:∀j,j∈A++S↔j<n/\0<Wt j:=fun j=>by rw[h.perm.mem_iff];simp
 grind
theorem Ky{x y W:Int}(hW:0<W)(h:x<y*W):x/W+1<=y:=by have:=Int.ediv_lt_of_lt_mul hW h;omega
theorem cD.bds{n}{r}{a}{A S}{L W}{m}(h:cD n Mn Mx Wt r a A S L W m)(hw:∀j,Mn j<=Mx j)(hp:∀j,0<=Wt j):
 ∀j,j<n->Mn j<=a j/\a j<=Mx j/\(Wt j=0->a j=Mn j):=by
 obtain⟨hA,hS,hd,fA,fS,ef⟩:=h.facts;intro j hj;rw[h.is j hj];have:=hw j;have:=hp j;by_cases h1:j∈A;·grind
 ·rw[if_neg h1];by_cases h2:j∈S
  ·rw[if_pos h2];have fZ:0<W:=by rw[h.weight];exact qP (fS j h2).2 (jS (fun k _=>hp k) h2)
   have:=Ky fZ (h.open_ j h2);have h0:0<=L*Wt j/W:=E' (jb h.pos (hp j)) (by omega);grind
  grind
theorem EM  S  (hS:S.Nodup)  m  (hm:m<=S.length):aG (fun j=>if j∈S.take m then 1 else 0) S=m:=by
 have e:aG (fun j=>if j∈S.take m then(1:Int)else 0) S=aG (fun j=>if j∈S.take m then(1:Int)else 0) (S.take m):=
  nc hS (hS.sublist (List.take_sublist _ _)) (fun j hj=>lm hj) (fun j _ hj=>if_neg hj);rw[e,bG (g:=fun _=>1) (fun j hj=>if_pos hj)];have:∀l:List Nat,aG (fun _=>(1:Int)) l=l.length:=by
  intro l;induction l with
  |nil=>rfl
  |cons a l ih=>grind[cm]
 grind
theorem cD.sum{n}{r}{a}{A S}{L W}{m}(h:cD n Mn Mx Wt r a A S L W m)(hp:∀j,0<=Wt j):
 (S≠[]->aG a (List.range n)=r)/\(S=[]->aG a (List.range n)=aG (fun j=>if 0<Wt j then Mx j else Mn j) (List.range n)/\L=r-aG a (List.range n)):=by
 obtain⟨hA,hS,hd,fA,fS,ef⟩:=h.facts;have hr:(List.range n).Nodup:=zi;have e0:aG a (List.range n)=aG Mn (List.range n)+aG (fun j=>(if j∈A then Mx j-Mn j else 0)+(if j∈S then L*Wt j/W+(if j∈S.take m then 1 else 0)else 0)) (List.range n):=by
  rw[<-gD];refine bG fun j hj=>?_;rw[h.is j (by grind)];by_cases h1:j∈A;·grind
  ·grind
 have eA:aG (fun j=>if j∈A then Mx j-Mn j else 0) (List.range n)=aG (fun j=>Mx j-Mn j) A:=by rw[nc (A:=A) hr hA (fun j hj=>by grind) (fun j _ hj=>if_neg hj)];exact bG fun j hj=>if_pos hj
 have eS:aG (fun j=>if j∈S then L*Wt j/W+(if j∈S.take m then 1 else 0)else 0) (List.range n)=aG (fun j=>L*Wt j/W) S+aG (fun j=>if j∈S.take m then 1 else 0) S:=by rw[nc (A:=S) hr hS (fun j hj=>by grind) (fun j _ hj=>if_neg hj),<-gD];exact bG fun j hj=>if_pos hj
 rw[gD,eA,eS]at e0;have hl:=h.left;refine⟨fun bZ=>?_,fun he=>?_⟩
 ·have fZ:0<W:=by obtain⟨x,hx⟩:=zj S bZ;rw[h.weight];exact qP (fS x hx).2 (jS (fun k _=>hp k) hx)
  have hm:=h.miss bZ;have hb:=lE (L:=L) h.weight fZ;rw[<-hm]at hb;grind[EM]
 ·subst he;simp only[qJ]at e0;refine⟨?_,by omega⟩;refine bG fun j hj=>?_;rw[h.is j (by simpa using hj)];grind
theorem cD.tiles{n}{r}{a}{A S}{L W}{m}(h:cD n Mn Mx Wt r a A S L W m)(hw:∀j,Mn j<=Mx j)(hp:∀j,0<=Wt j):
 aG a (List.range n)=min r (aG (fun j=>if 0<Wt j then Mx j else Mn j) (List.range n)):=by
 have hs:=h.sum hp;have hb:=h.bds hw hp;by_cases he:S=[];·have:=hs.2 he;have:=h.pos;omega
 grind[aG,lM]
theorem C7  d  (hd:∀i,i<d.length->0<=d[i]?.getD 0):∀  c   m   Y,c<=d.length->0<=m->m<=(d.take c).sum->
 ∃X,gb d c m Y=X++Y/\X.length=c/\(∀i,i<c->0<=X[i]?.getD 0/\X[i]?.getD 0<=d[i]?.getD 0)/\X.sum=(d.take c).sum-m/\(∀i k,i<k->k<c->X[i]?.getD 0<d[i]?.getD 0->X[k]?.getD 0=0)/\(m=0->∀i,i<c->X[i]?.getD 0=d[i]?.getD 0)
 |0,m,Y,_,h0,hm=>⟨[],rfl,rfl,fun i hi=>by omega,by grind,fun i k _ hk=>by omega,fun _ i hi=>by omega⟩
 |c+1,m,Y,hc,h0,hm=>by
  have hx:=hd c (by omega);have ht:(d.take (c+1)).sum=(d.take c).sum+d[c]?.getD 0:=by rw[lk (by omega),eR (by omega),Rv];simp only[List.sum_cons,List.sum_nil,Rx];omega
  have FC:0<=(d.take c).sum:=by
   have:∀k,k<=d.length->0<=(d.take k).sum:=by
    intro k hk;induction k with
    |zero=>simp
    |succ k ih=>have h1:=ih (by omega);have h2:=hd k (by omega);rw[lk (by omega)];grind
   exact this c (by omega)
  obtain⟨x,MV⟩:=ag (d[c]?.getD 0);rw[MV]at hx ht;obtain⟨X,e,hl,hb,hs,hk,hz⟩:=C7 d hd c (m-min m x) ((x-min m x)::Y) (by omega) (by omega) (by omega);refine⟨X++[x-min m x],by grind[gb],by simp[hl],?_,?_,?_,?_⟩;·grind
  all_goals grind
end
theorem OH(F:List Int)(bx fb fo fc:Nat)(W:World)(hb:W.cell? (az bx 0)=some (.slice (some (az fb fo)) F.length fc))(hF:∀j,j<F.length->W.cell? (az fb (fo+j))=some (Iq (F[j]?.getD 0)))(i k:Nat)(hi:i<F.length)(hk:k<F.length)(bY:F.length<=1099511627776):
 Cw 245 #[Iq i,Iq k,Pq bx] W fun e W'=>e=Rw (Iq (kN (F[k]?.getD 0) (F[i]?.getD 0)))/\∃q os,W'=grow (W.drewN q) os:=by
 obtain⟨n,hn⟩:=ag F.length;obtain⟨x,hx⟩:=ag (F[i]?.getD 0);obtain⟨y,hy⟩:=ag (F[k]?.getD 0);have c0:W.cell? (az fb (fo+i))=some (Iq x):=by rw[hF i hi,hx]
 have c1:W.cell? (az fb (fo+k))=some (Iq y):=by rw[hF k hk,hy]
 have qT:prog.follows .mixedOrders=true:=by kernel_rfl
 rw[hn]at hb hi hk bY;rw[hx,hy];have hi':(i:Int)<(n:Int):=by omega
 have hk':(k:Int)<(n:Int):=by omega
 obtain⟨z,hz⟩:=ag (kN y x);have HC:=qH<|fun m=>by have:=sf y x (W.drewN m);rw[hz]at this;exact this
 rw[hz];clear hF hn hx hy hz;go_enter func245,ntmps245;go_wp2_with fail;go_quiet(first|(go_at_call 243;exact(HC _).mono (fun e w' h=>⟨h.1,_,h.2⟩)));go_wp2;go_ret;exact⟨rfl,_,#[],(grow_empty _).symm⟩
theorem Q8(W:World)  o1 o2  :∃q os,((W.alloc o1).alloc o2).drew=grow (W.drewN q) os:=
 ⟨1,#[o1]++#[o2],by rw[alloc_eq_grow,alloc_eq_grow,grow_grow];rfl⟩
theorem OD(n bx wb wo wc:Nat)(W:World)(hb:W.cell? (az bx 0)=some (.slice (some (az wb wo)) n wc))(i k:Nat)(a1 a2 a3 b1 b2 b3:Int)
 (ca1:W.cell? (az wb (wo+i*3))=some (Iq a1)) (ca2:W.cell? (az wb (wo+i*3+1))=some (Iq a2)) (ca3:W.cell? (az wb (wo+i*3+2))=some (Iq a3))
 (cb1:W.cell? (az wb (wo+k*3))=some (Iq b1)) (cb2:W.cell? (az wb (wo+k*3+1))=some (Iq b2)) (cb3:W.cell? (az wb (wo+k*3+2))=some (Iq b3))
 (ha:0<=a2-a1/\a2-a1<=1073741824/\0<=a3/\a3<=1073741824) (jF:0<=b2-b1/\b2-b1<=1073741824/\0<=b3/\b3<=1073741824) (hi:i<n) (hk:k<n) (bY:n<=1099511627776) (jd:bx<W.heap.size) (hwb:wb<W.heap.size):
 Cw 242 #[Iq i,Iq k,Pq bx] W fun e W'=>e=Rw (Iq (kN ((a2-a1)*b3) ((b2-b1)*a3)))/\∃q os,W'=grow (W.drewN q) os:=by
 have qT:prog.follows .mixedOrders=true:=by kernel_rfl
 have hi':(i:Int)<(n:Int):=by omega
 have hk':(k:Int)<(n:Int):=by omega
 obtain⟨da,hda⟩:=ag (a2-a1);obtain⟨db,hdb⟩:=ag (b2-b1);rw[hda]at ha⊢;rw[hdb]at jF⊢;obtain⟨p,hp⟩:=ag (da*b3);obtain⟨q,hq⟩:=ag (db*a3);have lR:0<=p/\p<=1152921504606846976:=by rw[<-hp];refine⟨jb ha.1 jF.2.2.1,?_⟩;exact jl (nj ha.2.1 jF.2.2.2 jF.2.2.1 (by omega)) (by decide)
 have Pk:0<=q/\q<=1152921504606846976:=by rw[<-hq];refine⟨jb jF.1 ha.2.2.1,?_⟩;exact jl (nj jF.2.1 ha.2.2.2 ha.2.2.1 (by omega)) (by decide)
 have w1:IntKind.i64.wrap da=da:=IntWalk.i64_in _ ⟨by omega,by omega⟩;have w2:IntKind.i64.wrap db=db:=IntWalk.i64_in _ ⟨by omega,by omega⟩;have w3:IntKind.i64.wrap p=p:=IntWalk.i64_in _ ⟨by omega,by omega⟩;have w4:IntKind.i64.wrap q=q:=IntWalk.i64_in _ ⟨by omega,by omega⟩;obtain⟨z,hz⟩:=ag (kN p q);have HC:=qH<|fun w'=>by have:=sf p q w';rw[hz]at this;exact this
 rw[hp,hq,hz];clear hz lR Pk ha jF;go_enter func242,ntmps242;go_wp2_with fail;go_big_region;all_goals(go_wp2_with(go_at_call 243;refine(HC _).mono ?_;rintro e w5 ⟨rfl,rfl⟩))
 all_goals go_ret
 all_goals simp_all[Q8]
theorem ua  x y  :kN x y<0↔x<y:=by grind[kN]
theorem IC  x y  :-1<=kN x y/\kN x y<=1:=by grind[kN]
def yd(F:Int->Int)(i k:Int):Prop:=F k<F i\/(F i=F k/\i<k)
theorem Qp  F   D  :Ord (fun i k=>kN (F k) (F i)) D (yd F)where
 lt:=fun x _ y _ h=>Or.inl ((ua _ _).1 h)
 ge:=fun x _ y _ Ll h=>by
  have h1:¬F x<F y:=fun h2=>h ((ua _ _).2 h2);by_cases e:F x=F y;·exact Or.inr ⟨e,Ll⟩
  ·exact Or.inl (by omega)
 trans:=fun x _ y _ z _ h1 h2=>by grind[yd]
 bd:=fun x _ y _=>IC _ _
def BZ(M V:Int->Int)(i k:Int):Prop:=M i*V k<M k*V i\/(M i*V k=M k*V i/\i<k)
theorem Ol{a b c u v w:Int}(hu:0<u)(hv:0<v)(hw:0<w)(h1:a*v<=b*u)(h2:b*w<=c*v):a*w<=c*u:=by
 have e1:a*v*w<=b*u*w:=kq h1 (by omega);have e2:b*w*u<=c*v*u:=kq h2 (by omega);have e3:a*w*v<=c*u*v:=by rw[fU a w v,fU c u v];refine jl e1 ?_;rw[fU b u w];exact e2
 simp_all
theorem Om{a b c u v w:Int}(hu:0<u)(hv:0<v)(hw:0<w)(h1:a*v<=b*u)(h2:b*w<=c*v)(hs:a*v<b*u\/b*w<c*v):a*w<c*u:=by
 have e1:a*v*w<=b*u*w:=kq h1 (by omega);have e2:b*w*u<=c*v*u:=kq h2 (by omega);have e3:a*w*v<c*u*v:=by
  rw[fU a w v,fU c u v];rcases hs with hs|hs;·refine qP (JI hs hw) ?_;grind
  ·refine Int.lt_of_le_of_lt e1 ?_;rw[fU b u w];simp_all
 simp_all
theorem Qo  M V   D  (hV:∀i∈D,0<V i):Ord (fun i k=>kN (M i*V k) (M k*V i)) D (BZ M V)where
 lt:=fun x _ y _ h=>Or.inl ((ua _ _).1 h)
 ge:=fun x _ y _ Ll h=>by
  have h1:¬M y*V x<M x*V y:=fun h2=>h ((ua _ _).2 h2);by_cases e:M x*V y=M y*V x;·exact Or.inr ⟨e,Ll⟩
  ·exact Or.inl (by omega)
 trans:=fun x hx y hy z hz h1 h2=>by
  have l1:M x*V y<=M y*V x:=by rcases h1 with h|⟨h,_⟩<;>omega
  have l2:M y*V z<=M z*V y:=by rcases h2 with h|⟨h,_⟩<;>omega
  by_cases hs:M x*V y<M y*V x\/M y*V z<M z*V y;·exact Or.inl (Om (hV x hx) (hV y hy) (hV z hz) l1 l2 hs)
  ·have a1:¬M x*V y<M y*V x:=fun h=>hs (Or.inl h);have a2:¬M y*V z<M z*V y:=fun h=>hs (Or.inr h);have b1:x<y:=by rcases h1 with h|⟨_,h⟩;exact(a1 h).elim;exact h
   have b2:y<z:=by rcases h2 with h|⟨_,h⟩;exact(a2 h).elim;exact h
   have c1:=Ol (hV x hx) (hV y hy) (hV z hz) l1 l2;by_cases e:M x*V z=M z*V x;·exact Or.inr ⟨e,by omega⟩
   ·exact Or.inl (by omega)
 bd:=fun x _ y _=>IC _ _
theorem Kq(F:List Int)  bx fb fo fc blk   w0  (hb:w0.cell? (az bx 0)=some (.slice (some (az fb fo)) F.length fc)) (hF:∀j,j<F.length->w0.cell? (az fb (fo+j))=some (Iq (F[j]?.getD 0))) (D:List Int) (hD:∀x∈D,∃j:Nat,x=j/\j<F.length) (bY:F.length<=1099511627776) (h1:bx≠blk) (h2:fb≠blk):
 FE 245 #[Pq bx] (fun i k=>kN (F[k.toNat]?.getD 0) (F[i.toNat]?.getD 0)) D w0 blk:=by intro W hW x hx y hy;obtain⟨i,rfl,hi⟩:=hD x hx;obtain⟨k,rfl,hk⟩:=hD y hy;exact OH F bx fb fo fc W (hW.cell hb (by grind)) (fun j hj=>hW.cell (hF j hj) (by grind)) i k hi hk bY
theorem Ko  n bx wb wo wc blk  (Mn Mx Wt:Nat->Int)  w0  (hb:w0.cell? (az bx 0)=some (.slice (some (az wb wo)) n wc))
 (hW:∀j,j<n->w0.cell? (az wb (wo+j*3))=some (Iq (Mn j))/\w0.cell? (az wb (wo+j*3+1))=some (Iq (Mx j))/\w0.cell? (az wb (wo+j*3+2))=some (Iq (Wt j)))
 (hR:∀j,j<n->0<=Mx j-Mn j/\Mx j-Mn j<=1073741824/\0<=Wt j/\Wt j<=1073741824) (D:List Int) (hD:∀x∈D,∃j:Nat,x=j/\j<n) (bY:n<=1099511627776) (h1:bx≠blk) (h2:wb≠blk) (s1:bx<w0.heap.size) (s2:wb<w0.heap.size):
 FE 242 #[Pq bx] (fun i k=>kN ((Mx i.toNat-Mn i.toNat)*Wt k.toNat) ((Mx k.toNat-Mn k.toNat)*Wt i.toNat)) D w0 blk:=by intro W hg x hx y hy;obtain⟨i,rfl,hi⟩:=hD x hx;obtain⟨k,rfl,hk⟩:=hD y hy;exact OD n bx wb wo wc W (hg.cell hb (by grind)) i k (Mn i) (Mx i) (Wt i) (Mn k) (Mx k) (Wt k) (hg.cell (hW i hi).1 (by grind)) (hg.cell (hW i hi).2.1 (by grind)) (hg.cell (hW i hi).2.2 (by grind)) (hg.cell (hW k hk).1 (by grind)) (hg.cell (hW k hk).2.1 (by grind)) (hg.cell (hW k hk).2.2 (by grind)) (hR i hi) (hR k hk) hi hk bY (zz008 s1 hg.size) (zz008 s2 hg.size)
