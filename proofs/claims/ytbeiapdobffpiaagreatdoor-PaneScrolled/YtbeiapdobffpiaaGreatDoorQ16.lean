import Derived.Test.YtbeiapdobffpiaaGreatDoorQ15
import Derived.Shelf.Abstract
import Derived.Shelf.SlSortCmp.QuietGrown
set_option linter.all false
set_option maxRecDepth 100000
set_option maxHeartbeats 16000000
namespace Go.Proofs.YtbeiapdobffpiaaGreatDoor
open Go.RowKit Go.Sort Go.Proofs.Tryz
def BI(g:Nat)(lb:Array Value)(cf:Int->Int->Int)(D:List Int)(w0:World)(blk:Nat):Prop:=
 ∀W,w0.grownBy W (some blk)->∀x∈D,∀y∈D,Cw g (#[Iq x,Iq y]++lb) W fun e W'=>e=Rw (Iq (cf x y))/\∃q os,W'=grow (W.drewN q) os
theorem jO  W   q   os  :Bt W (grow (W.drewN q) os):=
 ⟨rfl,rfl,rfl,by simp_all,fun k hk=>by show(W.heap++os)[k]?=_;grind⟩
theorem BI.ok{g}{lb}{cf}{D}{w0}{blk}(h:BI g lb cf D w0 blk):xV g lb cf D w0 blk:=
 fun W hW x hx y hy=>(h W hW x hx y hy).mono fun e W' ⟨he,q,os,hq⟩=>⟨he,by grind[jO]⟩
theorem O'(M:List Int):M=[]\/∃M' y,M=M'++[y]:=by rcases List.eq_nil_or_concat M with h|⟨M',y,h⟩;all_goals grind
theorem Kx(A M1 M2:List Int)  k  (hk:k<A.length) (h:(M1++M2).Perm (A.take k)):(M1++[A[k]?.getD 0]++M2).Perm (A.take (k+1)):=by grind[jI]
theorem Kw{R:Int->Int->Prop}  M1 M2   x  (h:(M1++M2).Pairwise R) (h1:∀y∈M1,R y x) (h2:∀y∈M2,R x y):(M1++[x]++M2).Pairwise R:=by grind
def Sorted(w w':World)(blk off:Nat)(R:Int->Int->Prop)(P A S:List Int):Prop:=
 (∃M:List Int,M.Perm A/\M.Pairwise R/\a_ w' blk off (P++M++S))/\w.grownBy w' (some blk)
theorem O4(g:Nat)(lb:Array Value)(eg:∀args w,(callFunc g args).run prog w=.ok (.enter g args) w)(cf:Int->Int->Int)(D:List Int)(R:Int->Int->Prop)(hO:Ord cf D R)(w0:World)(blk off al:Nat)(hcmp:BI g lb cf D w0 blk)(P A S:List Int)(w:World)(n a b:Nat)(hw0:w0.grownBy w (some blk))(h:a_ w blk off (P++A++S))(hAD:∀x∈A,x∈D)(hasc:A.Pairwise (·<·))(hn:(P++A++S).length=n)(bH:n<=1099511627776)(ha:P.length=a)(hb:P.length+A.length=b):
 Cw 265 #[.slice (some (az blk off)) n al,Iq a,Iq b,.func (.func g) #[] lb] w fun e w'=>e=Rw (.tuple #[])/\Sorted w w' blk off R P A S:=by
 have HR:=qH<|h;have HO:=qH<|hO;have Ia:=qH<|hw0;have Qh:=qH<|hcmp;have vL:=qH<|hAD;have Ud:=qH<|hasc;have mY:prog.follows .mixedOrders=true:=by kernel_rfl
 have Bz:b<=n:=by rw[<-hb,<-hn];simp only[bf];omega
 have hb1:b<=a+A.length:=by omega
 have HN:Hid (P.length+A.length+S.length=n):=by show _=_;rw[<-hn];simp only[bf]
 have HA:=qH<|ha;go_enter func265,ntmps265;go_wp2;go_loopw[8] (fun i wr=>∃(u k:Nat) (M:List Int),i=Iq u/\a+k<=u/\u<=a+k/\1<=k/\(k<=A.length\/k=1)/\Hid (M.Perm (A.take k))/\Hid (M.Pairwise R)/\Hid (a_ wr blk off (P++M++A.drop k++S))/\Hid (w.grownBy wr (some blk))) (fun i _=>b+2-(intOf i).toNat);case atStart=>
  refine⟨a+1,1,A.take 1,by go_num,by omega,by omega,by omega,Or.inr rfl,Mk _,?_,?_,dA _ _⟩;·show List.Pairwise R _;match A with
   |[]=>simp_all
   |x::l=>grind
  ·show a_ _ _ _ _;have:=HR.out;rw[cO P,gO];omega
 case round=>
  obtain⟨u,k,M,rfl,CY,Tn,Gl,Cv,HM,_Y,hrow,fQ⟩:=hrel;by_cases hlt:k<A.length
  ·have aK:(u:Int)<(b:Int):=by omega
   obtain⟨x,hx⟩:=aj (A[k]?.getD 0);have HX:=qH<|hx;have MK:Hid (x∈D):=by show x∈D;rw[<-hx];exact vL _ (fl hlt)
   have Np:Hid (M.length=k):=by show _=_;rw[HM.length_eq,cX];omega
   have Qm:Hid (∀y∈M,y∈D/\y<x):=by intro y hy;obtain⟨t,ht,zj,e⟩:=jc (HM.mem_iff.1 hy);rw[<-e,<-hx];exact⟨vL _ (fl zj),jW Ud ht hlt⟩
   have gY:Hid (a_ wr blk off (P++M++[x]++[]++(A.drop (k+1)++S))):=by have:=hrow.out;rw[(jI A k hlt).2,hx]at this;show a_ _ _ _ _;simpa[cO]using this
   go_wp2;go_loopw[9] (fun j wr=>∃(v:Nat) (M1 M2:List Int),j=Iq v/\a+M1.length<=v/\v<=a+M1.length/\M1.length<=k/\Hid (M=M1++M2)/\Hid (∀y∈M2,R x y)/\Hid (a_ wr blk off (P++M1++[x]++M2++(A.drop (k+1)++S)))/\Hid (w.grownBy wr (some blk))) (fun j _=>(intOf j).toNat);case atStart=>exact⟨u,M,[],rfl,by rw[Np.out];omega,by rw[Np.out];omega,by rw[Np.out];omega,by grind,(fun y hy=>by cases hy),gY,fQ⟩
   case round=>
    obtain⟨v,M1,M2,rfl,zl,CZ,hvk,H8,H2,jb,hgr2⟩:=hrel;have D3:Hid ((∀y∈M1,R y x)->∃M',List.Perm M' (A.take (k+1))/\M'.Pairwise R/\(P++M1++[x]++M2++(A.drop (k+1)++S))=P++M'++A.drop (k+1)++S):=by
     intro h1;refine⟨M1++[x]++M2,?_,?_,by simp[cO]⟩;·have:=HM.out;rw[H8.out]at this;have:=Kx A M1 M2 k hlt this;rw[HX.out]at this;exact this
     ·have:=_Y.out;rw[H8.out]at this;exact Kw M1 M2 x this h1 H2
    rcases O' M1 with rfl|⟨M',y,rfl⟩
    ·have hva:v=a:=by simp at zl CZ;omega
     subst hva;obtain⟨M',d1,d2,d3⟩:=D3 (fun y hy=>by cases hy);have lV:Hid (a_ wr blk off (P++M'++A.drop (k+1)++S)):=by have:=jb.out;rw[d3]at this;exact this
     have D1:=qH<|d1;have D2:=qH<|d2;have oT:=qH<|hgr2.out;go_wp2_with fail;go_quiet(fail);go_wp2;go_roundw;case rel=>exact⟨u+1,k+1,M',by go_num,by omega,by omega,by omega,Or.inl (by omega),D1,D2,lV.drewN _,grown_trans oT (yO _ _ _)⟩
     case measure=>simp[intOf];omega
    ·have Ol:(M'++[y]).length=M'.length+1:=by simp
     rw[Ol]at zl CZ hvk;obtain⟨q,hq⟩:=aj (a+M'.length);have ZW:q+1=v:=by omega
     have hvi:(v:Int)-1=(q:Int):=by omega
     have MT:(a:Int)<(v:Int):=by omega
     have hvn:(v:Int)<(n:Int):=by omega
     have XU:(q:Int)<(n:Int):=by omega
     have hwq:IntKind.i64.wrap (q:Int)=(q:Int):=IntWalk.i64_in _ ⟨by omega,by omega⟩;have xL:(P++M').length=q:=by have:=HA.out;rw[bf];omega
     have V8:Hid (y∈M):=by show y∈M;rw[H8.out];simp
     have hdx:((P++M')++[y]++[x]++(M2++(A.drop (k+1)++S)))[q]?.getD 0=y:=by rw[<-xL];exact(oJ _ _ _ _).1
     have hdy:((P++M')++[y]++[x]++(M2++(A.drop (k+1)++S)))[v]?.getD 0=x:=by rw[<-ZW,<-xL];exact(oJ _ _ _ _).2
     have HL2:((P++M')++[y]++[x]++(M2++(A.drop (k+1)++S))).length=n:=by have h1:=Np.out;rw[H8.out]at h1;have:=HN.out;simp only[bf,cW,fB,iS]at*;omega
     have hr1:a_ wr blk off ((P++M')++[y]++[x]++(M2++(A.drop (k+1)++S))):=by have:=jb.out;simpa[cO]using this
     have c0:=cell_grown hr1.1 (by rw[(hr1.2 q (by omega)).1,hdx]);have c1:=cell_grown hr1.1 (by rw[(hr1.2 v (by omega)).1,hdy]);have uH:=fun n' os'=>
      Qh.out _ (grown_trans (grown_trans Ia hgr2) (grown_below (jO wr n' os'))) x MK y (Qm y V8).1;obtain⟨z,hz⟩:=aj (cf x y);have HZ:=qH<|hz;have HR1:=qH<|hr1;have _':Hid (q+1=v/\(P++M').length=q):=⟨ZW,xL⟩;have HQ:=qH<|hq;have HDX:=qH<|hdx;have HDY:=qH<|hdy;have Qk:=qH<|HL2;rw[hz]at uH;clear hq hz hr1 xL ZW hdx hdy HL2 Ol jb;go_wp2_with fail;go_quiet_grown(first|(go_at_fn g;refine Calls.grown_of (uH _ _)));have HR2:Hid (a_ (grow (wr.drewN nq) osq) blk off ((P++M')++[y]++[x]++(M2++(A.drop (k+1)++S)))):=HR1.below (jO _ _ _);have oT:Hid (w.grownBy (grow (wr.drewN nq) osq) (some blk)):=grown_trans hgr2 (grown_below (jO _ _ _));clear HR1 hgr2 c0 c1 uH;generalize grow (wr.drewN nq) osq=wc at HR2 oT⊢;clear nq osq;by_cases eK:z<0
     ·have hd:decide (z<0)=true:=by simp[eK]
      rw[hd];have Ip:=HO.lt x MK y (Qm y V8).1 (by rw[HZ.out];exact eK);have H2':Hid (∀y'∈y::M2,R x y'):=by
       intro y' hy';rcases tk.1 hy' with rfl|h3;·exact Ip
       ·exact H2 y' h3
      have _X:Hid (M=M'++(y::M2)):=by show _=_;rw[H8.out];simp
      have zkb:q<n:=by omega
      have zks:v<n:=by omega
      have c0:wc.cell? (az blk (off+q))=some (Iq y):=by rw[(HR2.2 q (by rw[Qk.out];omega)).1,HDX.out]
      have f0:=(HR2.2 q (by rw[Qk.out];omega)).2;have c1:wc.cell? (az blk (off+v))=some (Iq x):=by rw[(HR2.2 v (by rw[Qk.out];omega)).1,HDY.out]
      have f1:=(HR2.2 v (by rw[Qk.out];omega)).2;have BM:Hid (a_ ((wc.setCell (az blk (off+v)) (Iq y)).setCell (az blk (off+q)) (Iq x)) blk off (P++M'++[x]++(y::M2)++(A.drop (k+1)++S))):=by have:=lB HR2 v q (by rw[Qk.out];omega) (by rw[Qk.out];omega);rw[HDX.out,HDY.out,AL _ _ _ (by rw[Qk.out];omega) (by rw[Qk.out];omega)]at this;have mZ:=sZ (P++M') y x (M2++(A.drop (k+1)++S));rw[_'.2,_'.1]at mZ;rw[mZ]at this;show a_ _ _ _ _;simpa[cO]using this
      have HG:Hid (w.grownBy ((wc.setCell (az blk (off+v)) (Iq y)).setCell (az blk (off+q)) (Iq x)) (some blk)):=
       grown_trans oT (grown_trans (fd _ _ _ _) (fd _ _ _ _));have ZW:q<v:=by have:=_'.1;omega
      clear HR2 oT Ip D3;go_wp2;go_big_region;go_wp2;go_roundw;case rel=>exact⟨q,M',y::M2,rfl,by have:=HQ.out;omega,by have:=HQ.out;omega,by omega,_X,H2',BM,fG HG⟩
      case measure=>simp[intOf];omega
     ·have hd:decide (z<0)=false:=by simp[eK]
      rw[hd];have Ip:=HO.ge y (Qm y V8).1 x MK (Qm y V8).2 (by rw[HZ.out];exact eK);obtain⟨M3,d1,d2,d3⟩:=D3 (by
       intro y' hy';rcases lj.1 hy' with h3|h3;·have hp:=_Y.out;rw[H8.out]at hp;have h4:=(jM.1 (jM.1 hp).1).2.2 y' h3 y (by simp);exact HO.trans y' (Qm y' (by rw[H8.out];simp[h3])).1 y (Qm y V8).1 x MK h4 Ip
       ·rw[Ml]at h3;subst h3;exact Ip);have lV:Hid (a_ wc blk off (P++M3++A.drop (k+1)++S)):=by have:=HR2.out;show a_ _ _ _ _;rw[<-d3];simpa[cO]using this
      have D1:=qH<|d1;have D2:=qH<|d2;clear d1 d2 d3 HR2 D3 Ip;go_wp2;go_roundw;case rel=>exact⟨u+1,k+1,M3,by go_num,by omega,by omega,by omega,Or.inl (by omega),D1,D2,lV,oT⟩
      case measure=>simp[intOf];omega
  ·have aK:¬(u:Int)<(b:Int):=by omega
   have lV:Hid (a_ wr blk off (P++M++S)):=by have:=hrow.out;rw[vr (by omega)]at this;show a_ _ _ _ _;simpa[cO]using this
   have HM':Hid (M.Perm A):=by have:=HM.out;rw[gt (by omega)]at this;exact this
   clear hrow HM;go_wp2;go_end0;exact⟨rfl,⟨M,HM',_Y,lV⟩,fQ⟩
inductive fV(R:Int->Int->Prop)(s:Nat):List Int->List Int->Prop
 |nil:fV R s [] []
 |cons (T M L d:List Int):M.Perm T->M.Pairwise R->T.length<=s->(T.length=s\/L=[])->fV R s L d->fV R s (T++L) (M++d)
def vJ(R:Int->Int->Prop)(s:Nat)(L1 Y:List Int):Prop:=∀L' d',fV R s L' d'->fV R s (L1++L') (Y++d')
theorem fV.len{R}{s}{L d}(h:fV R s L d):d.length=L.length:=by
 induction h with
 |nil=>rfl
 |cons T M L d hp _ _ _ _ ih=>rw[bf,bf,hp.length_eq,ih]
theorem fV.mem{R}{s}{L d}(h:fV R s L d):d.Perm L:=by
 induction h with
 |nil=>grind
 |cons T M L d hp _ _ _ _ ih=>grind
theorem fV.split{R}{s}{L d}(h:fV R s L d)(hs:s<d.length):∃T M L' d',L=T++L'/\d=M++d'/\M.Perm T/\M.Pairwise R/\T.length=s/\fV R s L' d':=by
 cases h with
 |nil=>simp at hs
 |cons T M L d hp hw hl hf hr=>
  rcases hf with hf|rfl;·grind
  ·have:=hr.len;have:=hp.length_eq;grind
theorem fV.one{R}{s}{L d}(h:fV R s L d)(Gy:0<s)(hs:d.length<=s):d.Perm L/\d.Pairwise R:=by
 cases h with
 |nil=>simp_all
 |cons T M L d hp hw hl hf hr=>
  have h1:=hr.len;have h2:=hp.length_eq;have:d=[]:=by
   rcases hf with hf|rfl;·simp only[bf]at hs;exact lk (by omega)
   ·grind
  grind
theorem fV.single{R}{s}{L d}(hp:d.Perm L)(hw:d.Pairwise R)(hs:L.length<=s):fV R s L d:=by have:=fV.cons (R:=R) (s:=s) L d [] [] hp hw hs (Or.inr rfl) .nil;grind
theorem vJ.nil{R}{s}:vJ R s [] []:=fun _ _ h=>h
theorem vJ.snoc{R}{s}{L1 Y T M}(h:vJ R s L1 Y)(hp:M.Perm T)(hw:M.Pairwise R)(hs:T.length=s):vJ R s (L1++T) (Y++M):=fun L' d' hr=>by rw[cO,cO];exact h _ _ (fV.cons T M L' d' hp hw (by omega) (Or.inl hs) hr)
theorem DP(g:Nat)(lb:Array Value)(eg:∀args w,(callFunc g args).run prog w=.ok (.enter g args) w)(cf:Int->Int->Int)(D:List Int)(R:Int->Int->Prop)(hO:Ord cf D R)(w0:World)(blk off al:Nat)(hcmp:BI g lb cf D w0 blk)(L:List Int)(w:World)(n:Nat)(hw0:w0.grownBy w (some blk))(h:a_ w blk off L)(hD:∀x∈L,x∈D)(hasc:L.Pairwise (·<·))(hn:L.length=n)(bH:n<=1099511627776):
 Cw 251 #[.slice (some (az blk off)) n al,Iq n,.func (.func g) #[] lb] w fun e w'=>e=Rw (.tuple #[])/\Sorted w w' blk off R [] L []:=by
 have HR:=qH<|h;have Ia:=qH<|hw0;have HD:=qH<|hD;have Ud:=qH<|hasc;have HN:=qH<|hn;have CI:=qH<|
  fun P A S W a b h1 h2 h3 h4 h5 h6 h7=>O4 g lb eg cf D R hO w0 blk off al hcmp P A S W n a b (grown_trans Ia h1) h2 h3 h4 h5 bH h6 h7;have CS:=qH<|
  fun P A B S W a m b h1 h2 h3 h4 h5 h6 h7 h8 h9 eq h11 h12 h13=>E5 g lb eg cf D R hO w0 blk off al hcmp.ok (A.length+B.length) P A B S W n a m b (ai _) (grown_trans Ia h1) h2 h3 h4 h5 h6 h7 h8 h9 eq bH h11 h12 h13;go_enter func251,ntmps251;go_wp2;go_loopw[7,8] (fun i j wr=>∃(a b:Nat) (L1 T Y:List Int),i=Iq a/\j=Iq b/\b<=a+20/\a+20<=b/\a<=n/\Hid (a+T.length=n)/\Hid (Y.length=a)/\Hid (L=L1++T)/\Hid (vJ R 20 L1 Y)/\Hid (a_ wr blk off (Y++T))/\Hid (w.grownBy wr (some blk))) (fun i _ _=>n-(intOf i).toNat);case atStart=>exact⟨0,20,[],L,[],by go_num,by go_num,by omega,by omega,by omega,by grind,by show _=_;rfl,by show _=_;rfl,vJ.nil,HR,dA _ _⟩
 case round=>
  obtain⟨a,b,L1,T,Y,rfl,rfl,hb1,hb2,han,HT,HY,HL,HDn,hrow,fQ⟩:=hrel;by_cases Bz:b<=n
  ·have SJ:(b:Int)<=(n:Int):=by omega
   have C:Hid (Cw 265 #[.slice (some (az blk off)) n al,Iq a,Iq b,.func (.func g) #[] lb] wr fun e w'=>e=Rw (.tuple #[])/\Sorted wr w' blk off R Y (T.take 20) (T.drop 20)):=by
    have:=HT.out;have:=HY.out;refine CI Y (T.take 20) (T.drop 20) wr a b fQ ?_ ?_ ?_ ?_ HY ?_;·rw[cO,gO];exact hrow
    ·intro x hx;exact HD x (by rw[HL.out];grind)
    ·have h1:=Ud.out;rw[HL.out]at h1;grind
    ·grind
    ·grind
   go_wp2_with fail;refine C.mono ?_;rintro e w2 ⟨rfl,⟨M,m1,m2,r2⟩,g2⟩;have HT':Hid (b+(T.drop 20).length=n):=by show _=_;have:=HT.out;rw[cW];omega
   have zcS:(T.take 20).length=20:=by have:=HT.out;rw[cX];omega
   have HY':Hid ((Y++M).length=b):=by show _=_;have:=HY.out;rw[bf,m1.length_eq];omega
   have _R:Hid (L=(L1++T.take 20)++T.drop 20):=by show _=_;rw[cO,gO];exact HL
   have RF:=qH<|HDn.snoc m1 m2 zcS;have gY:=qH<|r2;have np:=qH<|grown_trans fQ g2;go_wp2;go_roundw;case rel=>exact⟨b,b+20,L1++T.take 20,T.drop 20,Y++M,rfl,by go_num,by omega,by omega,Bz,HT',HY',_R,RF,gY,np⟩
   case measure=>simp[intOf];omega
  ·have SJ:¬(b:Int)<=(n:Int):=by omega
   have C:Hid (Cw 265 #[.slice (some (az blk off)) n al,Iq a,Iq n,.func (.func g) #[] lb] wr fun e w'=>e=Rw (.tuple #[])/\Sorted wr w' blk off R Y T []):=by
    have:=HT.out;have:=HY.out;refine CI Y T [] wr a n fQ (by simpa using hrow.out) ?_ ?_ ?_ HY (by omega);·intro x hx;exact HD x (by rw[HL.out];grind)
    ·have h1:=Ud.out;rw[HL.out]at h1;grind
    ·grind
   go_wp2_with fail;refine C.mono ?_;rintro e w2 ⟨rfl,⟨M,m1,m2,r2⟩,g2⟩;have HRn:Hid (fV R 20 L (Y++M)):=by show fV R 20 L (Y++M);rw[HL.out];exact HDn T M (fV.single m1 m2 (by have:=HT.out;omega))
   have gY:Hid (a_ w2 blk off (Y++M)):=by have:=r2;show a_ _ _ _ _;simpa using this
   have np:=qH<|grown_trans fQ g2;go_wp2;go_loopw[6] (fun i wr=>∃(s:Nat) (d:List Int),i=Iq s/\20<=s/\s<=2*n+20/\Hid (fV R s L d)/\Hid (a_ wr blk off d)/\Hid (w.grownBy wr (some blk))) (fun i _=>n-(intOf i).toNat);case atStart=>grind
   case round=>
    obtain⟨s,d,rfl,zki,EG,HRn2,jb,hgr2⟩:=hrel;by_cases uM:s<n
    ·have zcO:(s:Int)<(n:Int):=by omega
     obtain⟨t,ht⟩:∃t:Nat,2*s=t:=⟨_,rfl⟩;have hti:(2:Int)*(s:Int)=(t:Int):=by omega
     have htj:(s:Int)*(2:Int)=(t:Int):=by omega
     go_wp2;go_loopw[7,8] (fun i j wr=>∃(a b:Nat) (L1 L' Y d':List Int),i=Iq a/\j=Iq b/\b<=a+t/\a+t<=b/\a<=n/\Hid (a+d'.length=n)/\Hid (Y.length=a)/\Hid (L=L1++L')/\Hid (vJ R t L1 Y)/\Hid (fV R s L' d')/\Hid (a_ wr blk off (Y++d'))/\Hid (w.grownBy wr (some blk))) (fun i _ _=>n-(intOf i).toNat);case atStart=>exact⟨0,t,[],L,[],d,by go_num,rfl,by omega,by omega,by omega,by show _=_;have:=HN.out;have:=HRn2.len;omega,by show _=_;rfl,by show _=_;rfl,vJ.nil,HRn2,jb,hgr2⟩
     case round=>
      obtain⟨a,b,L1,L',Y,d',rfl,rfl,hb1,hb2,han,HT,HY,HL,HDn,IK,lV,oT⟩:=hrel;by_cases Bz:b<=n
      ·have SJ:(b:Int)<=(n:Int):=by omega
       obtain⟨T1,M1,L2,d2,e1,e2,p1,w1,l1,r1⟩:=IK.split (by have:=HT.out;omega);have SV:s<=d2.length:=by have h1:=HT.out;rw[e2,bf,p1.length_eq]at h1;omega
       obtain⟨T2,M2,L3,d3,f1,f2,p2,Vs,l2,r2⟩:∃T M L' d',L2=T++L'/\d2=M++d'/\M.Perm T/\M.Pairwise R/\T.length=s/\fV R s L' d':=by
        by_cases hq:s<d2.length;·exact r1.split hq
        ·have ho:=r1.one (by omega) (by omega);exact⟨L2,d2,[],[],by simp,by simp,ho.1,ho.2,by have:=r1.len;omega,.nil⟩
       subst e1;subst e2;subst f1;subst f2;obtain⟨m,hm⟩:∃m:Nat,a+s=m:=⟨_,rfl⟩;have Gs:(a:Int)+(s:Int)=(m:Int):=by omega
       have hL:=HL.out;have UO:=Ud.out;rw[hL]at UO;have hA1:=(jM.1 UO).2.1;have C:Hid (Cw 266 #[.slice (some (az blk off)) n al,Iq a,Iq m,Iq b,.func (.func g) #[] lb] wr fun e w'=>e=Rw (.tuple #[])/\rq wr w' blk off R Y M1 M2 d3):=by
        have h1:=HT.out;have h2:=HY.out;have q1:=p1.length_eq;have q2:=p2.length_eq;simp only[bf]at h1;refine CS Y M1 M2 d3 wr a m b oT (by simpa[cO]using lV.out) ?_ ?_ w1 Vs ?_ (by omega) (by omega) (by simp only[bf];omega) HY (by omega) (by omega);·intro x hx;exact HD x (by rw[hL];simp[p1.mem_iff.1 hx])
        ·intro x hx;exact HD x (by rw[hL];simp[p2.mem_iff.1 hx])
        ·intro x hx y hy;exact(jM.1 hA1).2.2 x (p1.mem_iff.1 hx) y (lj.2 (Or.inl (p2.mem_iff.1 hy)))
       have KP:Hid (M1.Perm T1/\M2.Perm T2/\T1.length=s/\T2.length=s):=⟨p1,p2,l1,l2⟩;have KR:=qH<|r2;go_wp2_with fail;refine C.mono ?_;rintro e w2 ⟨rfl,⟨M,m1,m2,r2⟩,g2⟩;have HT':Hid (b+d3.length=n):=by show _=_;have h1:=HT.out;have q1:=KP.1.length_eq;have q2:=KP.2.1.length_eq;have q3:=KP.2.2;simp only[bf]at h1;omega
       have HY':Hid ((Y++M).length=b):=by show _=_;have h1:=HY.out;have q1:=KP.1.length_eq;have q2:=KP.2.1.length_eq;have q3:=KP.2.2;rw[bf,m1.length_eq,bf];omega
       have _R:Hid (L=(L1++(T1++T2))++L3):=by show _=_;rw[HL.out];simp[cO]
       have RF:=qH<|HDn.snoc (m1.trans (KP.1.append KP.2.1)) m2 (by have:=KP.2.2;rw[bf];omega);have gY:=qH<|r2;have np:=qH<|grown_trans oT g2;go_wp2;go_roundw;case rel=>exact⟨b,b+t,L1++(T1++T2),L3,Y++M,d3,rfl,by go_num,by omega,by omega,Bz,HT',HY',_R,RF,KR,gY,np⟩
       case measure=>simp[intOf];omega
      ·have SJ:¬(b:Int)<=(n:Int):=by omega
       obtain⟨m,hm⟩:∃m:Nat,a+s=m:=⟨_,rfl⟩;have Gs:(a:Int)+(s:Int)=(m:Int):=by omega
       by_cases yZ:m<n
       ·have zcs:(m:Int)<(n:Int):=by omega
        obtain⟨T1,M1,L2,d2,e1,e2,p1,w1,l1,r1⟩:=IK.split (by have:=HT.out;omega);subst e1;subst e2;have SV:d2.length<=s:=by have h1:=HT.out;rw[bf,p1.length_eq]at h1;omega
        obtain⟨p2,Vs⟩:=r1.one (by omega) SV;have hL:=HL.out;have UO:=Ud.out;rw[hL]at UO;have hA1:=(jM.1 UO).2.1;have C:Hid (Cw 266 #[.slice (some (az blk off)) n al,Iq a,Iq m,Iq n,.func (.func g) #[] lb] wr fun e w'=>e=Rw (.tuple #[])/\rq wr w' blk off R Y M1 d2 []):=by
         have h1:=HT.out;have h2:=HY.out;have q1:=p1.length_eq;simp only[bf]at h1;refine CS Y M1 d2 [] wr a m n oT (by simpa[cO]using lV.out) ?_ ?_ w1 Vs ?_ (by omega) (by omega) (by simp only[bf,iS];omega) HY (by omega) (by omega);·intro x hx;exact HD x (by rw[hL];simp[p1.mem_iff.1 hx])
         ·intro x hx;exact HD x (by rw[hL];simp[p2.mem_iff.1 hx])
         ·intro x hx y hy;exact(jM.1 hA1).2.2 x (p1.mem_iff.1 hx) y (p2.mem_iff.1 hy)
        have KE:Hid (∀M:List Int,M.Perm (M1++d2)->M.Pairwise R->fV R t L (Y++M)):=by intro M m1 m2;have h1:=HT.out;rw[hL];refine HDn _ _ (fV.single (m1.trans (p1.append p2)) m2 ?_);have q1:=p1.length_eq;have q2:=p2.length_eq;simp only[bf]at*;omega
        clear p1 p2 l1 r1 w1 Vs hm hL UO hA1 SV;go_wp2_with fail;refine C.mono ?_;rintro e w2 ⟨rfl,⟨M,m1,m2,r2⟩,g2⟩;have KR:=qH<|KE M m1 m2;have gY:Hid (a_ w2 blk off (Y++M)):=by have:=r2;show a_ _ _ _ _;simpa using this
        have np:=qH<|grown_trans oT g2;clear m1 m2 r2 g2 C lV oT HT HY HL HDn IK KE;go_wp2;go_roundw;case rel=>exact⟨t,Y++M,rfl,by omega,by omega,KR,gY,np⟩
        case measure=>simp[intOf];omega
       ·have zcs:¬(m:Int)<(n:Int):=by omega
        have KR:Hid (fV R t L (Y++d')):=by show fV R t L (Y++d');have h1:=HT.out;obtain⟨p2,Vs⟩:=IK.one (by omega) (by omega);rw[HL.out];exact HDn _ _ (fV.single p2 Vs (by have:=p2.length_eq;omega))
        clear HT HY HL HDn IK hm;go_wp2;go_roundw;case rel=>exact⟨t,Y++d',rfl,by omega,by omega,KR,lV,oT⟩
        case measure=>simp[intOf];omega
    ·have zcO:¬(s:Int)<(n:Int):=by omega
     have HF:=qH<|HRn2.one (by omega) (by have:=HRn2.len;have:=HN.out;omega);go_wp2;go_end0;exact⟨rfl,⟨d,HF.1,HF.2,by simpa using jb.out⟩,hgr2⟩
theorem k_(g:Nat)(lb:Array Value)(eg:∀args w,(callFunc g args).run prog w=.ok (.enter g args) w)(cf:Int->Int->Int)(D:List Int)(R:Int->Int->Prop)(hO:Ord cf D R)(w0:World)(blk off al:Nat)(hcmp:BI g lb cf D w0 blk)(L:List Int)(w:World)(n:Nat)(hw0:w0.grownBy w (some blk))(h:a_ w blk off L)(hD:∀x∈L,x∈D)(hasc:L.Pairwise (·<·))(hn:L.length=n)(bH:n<=1099511627776):
 Cw 229 #[.slice (some (az blk off)) n al,.func (.func g) #[] lb] w fun e w'=>e=Rw (.tuple #[])/\Sorted w w' blk off R [] L []:=by
 have C:=qH<|
  DP g lb eg cf D R hO w0 blk off al hcmp L w n hw0 h hD hasc hn bH;clear h hO hw0 hcmp hD hasc hn;go_enter func229,ntmps229;go_wp2_with fail;refine C.mono ?_;rintro e w2 ⟨rfl,s2⟩;have S2:=qH<|s2;clear s2 C;go_wp2;go_end0;exact⟨rfl,S2⟩
theorem O5(fv:Value)(w:World):
 Cw 265 #[.slice none 0 0,Iq 0,Iq 0,fv] w fun e w'=>e=Rw (.tuple #[])/\w'=w:=by
 go_enter func265,ntmps265;go_wp2;go_loopw[8] (fun i wr=>i=Iq 1/\wr=w) (fun i _=>0);case atStart=>grind
 case round=>obtain⟨rfl,rfl⟩:=hrel;go_wp2;go_end0;simp_all
theorem DQ(fv:Value)(w:World):
 Cw 251 #[.slice none 0 0,Iq 0,fv] w fun e w'=>e=Rw (.tuple #[])/\w'=w:=by
 go_enter func251,ntmps251;go_wp2;go_loopw[7,8] (fun i j wr=>i=Iq 0/\j=Iq 20/\wr=w) (fun i _ _=>0);case atStart=>grind
 case round=>
  obtain⟨rfl,rfl,rfl⟩:=hrel;go_wp2_with fail;refine(O5 fv wr).mono ?_;rintro e w2 ⟨rfl,rfl⟩;go_wp2;go_loopw[6] (fun i wr=>i=Iq 20/\wr=w2) (fun i _=>0);case atStart=>grind
  case round=>obtain⟨rfl,rfl⟩:=hrel;go_wp2;go_end0;simp_all
theorem sW(fv:Value)(w:World):
 Cw 229 #[.slice none 0 0,fv] w fun e w'=>e=Rw (.tuple #[])/\w'=w:=by go_enter func229,ntmps229;go_wp2_with fail;refine(DQ fv w).mono ?_;rintro e w2 ⟨rfl,rfl⟩;go_wp2;go_end0;grind
def jw(x y:Int):Int:=if x<y then-1 else if y<x then 1 else 0
theorem sf(x:Int)(w:World):
 Cw 187 #[Iq x] w fun e w'=>e=Rw (.bool false)/\w'=w:=by go_enter func187,ntmps187;go_wp2;go_ret;simp_all
theorem pM(x y:Int)(w:World):
 Cw 231 #[Iq x,Iq y] w fun e w'=>e=Rw (Iq (jw x y))/\w'=w:=by
 obtain⟨z,hz⟩:=aj (jw x y);have HZ:=qH<|hz;rw[hz];clear hz;by_cases h1:x<y
 ·have fZ:z=-1:=by have:=HZ.out;unfold jw at this;rw[if_pos h1]at this;exact this.symm
  subst fZ;go_enter func231,ntmps231;go_wp2_with(refine(sf _ _).mono ?_;rintro e w2 ⟨rfl,rfl⟩);try go_wp2
  go_ret;simp_all
 ·by_cases h2:y<x
  ·have fZ:z=1:=by have:=HZ.out;unfold jw at this;rw[if_neg h1,if_pos h2]at this;exact this.symm
   subst fZ;go_enter func231,ntmps231;go_wp2_with(refine(sf _ _).mono ?_;rintro e w2 ⟨rfl,rfl⟩);go_ret;simp_all
  ·have fZ:z=0:=by have:=HZ.out;unfold jw at this;rw[if_neg h1,if_neg h2]at this;exact this.symm
   subst fZ;go_enter func231,ntmps231;go_wp2_with(refine(sf _ _).mono ?_;rintro e w2 ⟨rfl,rfl⟩);go_ret;simp_all
def gb(d:List Int):Nat->Int->List Int->List Int
 |0,_,Y=>Y
 |c+1,m,Y=>gb d c (m-min m (d[c]?.getD 0)) ((d[c]?.getD 0-min m (d[c]?.getD 0))::Y)
theorem GI{W}{blk off}{d}(h:a_ W blk off d)  i   y  (hi:i<d.length):a_ (W.setCell (az blk (off+i)) (Iq y)) blk off (d.set i y):=by
 refine⟨by simpa using h.1,fun k hk=>?_⟩;rw[Mh]at hk;simp only[gN];refine⟨?_,(h.2 k hk).2⟩;have hc:=(h.2 k hk).1;by_cases h1:k=i;·subst h1;rw[vs _ _ _ (by grind)];simp[hk]
 ·rw[dX _ _ _ _ (fun e=>h1 (by grind)),hc,vt (fun e=>h1 e.symm)]
theorem PE(X:List Int)  x y   Y  :(X++[x]++Y).set X.length y=X++(y::Y):=by grind
theorem wG(d:List Int)(blk off al:Nat)(nL:Int)(w:World)(n:Nat)(h:a_ w blk off d)(hn:d.length=n)(bH:n<=1099511627776)(hd:∀x∈d,0<=x/\x<=1099511627776)(hm:0<=nL/\nL<=1099511627776):
 Cw 177 #[.slice (some (az blk off)) n al,Iq nL] w fun e w'=>e=Rw (.tuple #[])/\a_ w' blk off (gb d n nL [])/\w.grownBy w' (some blk):=by
 have HR:=qH<|h;have HN:=qH<|hn;have HD:=qH<|hd;have kI:=hm.1;have hm2:=hm.2;clear h hn hd hm;go_enter func177,ntmps177;go_wp2;go_loopw[1,4] (fun m i wr=>∃(c:Nat) (mu iv:Int) (Y:List Int),m=Iq mu/\i=Iq iv/\iv<=(c:Int)-1/\(c:Int)-1<=iv/\c<=n/\0<=mu/\mu<=1099511627776/\Hid (gb d c mu Y=gb d n nL [])/\Hid (c+Y.length=n)/\Hid (a_ wr blk off (d.take c++Y))/\Hid (w.grownBy wr (some blk))) (fun _ i _=>(intOf i+1).toNat);case atStart=>exact⟨n,nL,(n:Int)-1,[],rfl,by go_num,by omega,by omega,ai _,kI,hm2,by show _=_;rfl,by show _=_;rfl,by show a_ _ _ _ _;rw[j_,gt (by rw[HN.out];omega)];exact HR,dA _ _⟩
 case round=>
  obtain⟨c,mu,iv,Y,rfl,rfl,h1,h2,hcn,CY,Tn,HG,HC,hrow,fQ⟩:=hrel;match c with
  |0=>
   have jl:¬(0:Int)<=iv:=by omega
   go_wp2;go_end0;exact⟨rfl,by have:=hrow.out;have h0:=HG.out;simp_all[gb],fQ⟩
  |c+1=>
   have dL:(0:Int)<=iv:=by omega
   obtain rfl:iv=(c:Int):=by omega
   obtain⟨x,hx⟩:=aj (d[c]?.getD 0);have QO:c<d.length:=by rw[HN.out];omega
   have tS:=HD x (by grind);have qG:=tS.1;have m6:=tS.2;have zi_:(c:Int)<(n:Int):=by omega
   have htn:=(jI d c QO).1;rw[hx]at htn;have hr1:=hrow.out;rw[htn]at hr1;have xL:(d.take c).length=c:=by rw[cX];omega
   have hL:(d.take c++[x]++Y).length=n:=by have:=HC.out;simp only[bf,cX,fB,iS];omega
   have bY:(d.take c++[x]++Y)[c]?.getD 0=x:=by
    have:(d.take c++[x]++Y)[(d.take c).length]?.getD 0=x:=by simp[cO]
    rw[xL]at this;exact this
   have c0:wr.cell? (az blk (off+c))=some (Iq x):=by rw[(hr1.2 c (by omega)).1,bY]
   have f0:=(hr1.2 c (by omega)).2;obtain⟨bk,QN⟩:=aj (min mu x);have BM:Hid (a_ (wr.setCell (az blk (off+c)) (Iq (x-bk))) blk off (d.take c++((x-bk)::Y))):=by have:=GI hr1 c (x-bk) (by omega);have e:=PE (d.take c) x (x-bk) Y;rw[xL]at e;rw[e]at this;exact this
   have HG':Hid (gb d c (mu-bk) ((x-bk)::Y)=gb d n nL []):=by have:=HG.out;simp only[gb]at this;rw[hx,QN]at this;exact this
   have HC':Hid (c+((x-bk)::Y).length=n):=by show _=_;have:=HC.out;simp only[fB];omega
   have HGr:Hid (w.grownBy (wr.setCell (az blk (off+c)) (Iq (x-bk))) (some blk)):=grown_trans fQ (fd _ _ _ _);have hb1:bk<=mu:=by omega
   have hb2:bk<=x:=by omega
   have uG:0<=bk:=by omega
   have Kb:bk=mu/\mu<=x\/bk=x/\x<mu:=by omega
   clear hx tS htn hr1 xL hL bY hrow fQ HG HC QN QO;rcases Kb with⟨rfl,hle⟩|⟨rfl,hle⟩
   ·rw[Int.sub_self]at HG';go_wp2;go_roundw;case rel=>grind
    case measure=>simp[intOf]<;>omega
   ·rw[Int.sub_self]at HG' HC' BM HGr;go_wp2;go_roundw;case rel=>grind
    case measure=>simp[intOf]<;>omega
section
def aA(f:Nat->Int)(l:List Nat):Int:=(l.map f).sum
theorem om  f  :aA f []=0:=rfl
theorem bN  f   j   l  :aA f (j::l)=f j+aA f l:=by simp[aA]
theorem ld  f   l m  :aA f (l++m)=aA f l+aA f m:=by simp[aA]
theorem dj  f   l   j  :aA f (l++[j])=aA f l+f j:=by simp[aA]
theorem lJ{f}{l m}(h:l.Perm m):aA f l=aA f m:=by
 induction h with
 |nil=>rfl
 |cons x _ ih=>grind[bN]
 |swap x y l=>simp only[bN];omega
 |trans _ _ a b=>omega
theorem jZ{f g}{l}(h:∀j∈l,f j<=g j):aA f l<=aA g l:=by
 induction l with
 |nil=>exact jL _
 |cons a l ih=>grind[bN]
theorem bo{f g}{l}(h:∀j∈l,f j=g j):aA f l=aA g l:=
 Int.le_antisymm (jZ fun j hj=>Int.le_of_eq (h j hj)) (jZ fun j hj=>Int.le_of_eq (h j hj).symm)
theorem fx  f g   l  :aA (fun j=>f j+g j) l=aA f l+aA g l:=by
 induction l with
 |nil=>rfl
 |cons a l ih=>grind[bN]
theorem fy  c   f   l  :aA (fun j=>c*f j) l=c*aA f l:=by
 induction l with
 |nil=>simp[aA]
 |cons a l ih=>grind[bN]
theorem cy{f}{l}(h:∀j∈l,0<=f j):0<=aA f l:=by
 induction l with
 |nil=>exact jL _
 |cons a l ih=>grind[bN]
theorem eT{f}{l}{b}(h:∀j∈l,f j<=b):aA f l<=(l.length:Int)*b:=by
 induction l with
 |nil=>simp[aA]
 |cons a l ih=>have:=h a (by simp);have:=ih fun j hj=>h j (by simp[hj]);rw[bN,fB,Int.natCast_add,Int.add_mul];omega
theorem iO{f}{l}(h:∀j∈l,0<=f j){i}(hi:i∈l):f i<=aA f l:=by
 induction l with
 |nil=>grind
 |cons a l ih=>have h1:=h a (by simp);have h2:0<=aA f l:=cy fun j hj=>h j (by simp[hj]);grind[bN]
theorem lf{f}{l A}(hl:l.Nodup)(hA:A.Nodup)(hs:∀j∈A,j∈l)(h0:∀j∈l,j∉A->f j=0):aA f l=aA f A:=by
 induction A generalizing l with
 |nil=>
  rw[om];have:=bo fun j hj=>h0 j hj (by simp);rw[this];clear this h0 hs hl;induction l with
  |nil=>rfl
  |cons a l ih=>grind[bN]
 |cons a A ih=>have ha:=hs a (by simp);have hp:=List.perm_cons_erase ha;rw[lJ hp,bN,bN];grind
variable{Mn Mx Wt:Nat->Int}
theorem F'{A B}{i}{L W}(hm:∀j,0<=Mx j-Mn j)(hA:∀j∈A,0<Wt j/\(Mx j-Mn j)*Wt i<=(Mx i-Mn i)*Wt j)(hi:0<Wt i)(hB:∀j∈B,0<Wt j)(hW:W=aA Wt (i::B))(hle:(Mx i-Mn i)*W<=L*Wt i):
 0<=L-(Mx i-Mn i)/\∀j∈A++[i],(Mx j-Mn j)*(W-Wt i)<=(L-(Mx i-Mn i))*Wt j:=by
 have Eu:=cy fun j hj=>Fc (hB j hj);rw[bN]at hW;have Gs:=hm i;have h1:(Mx i-Mn i)*Wt i<=(Mx i-Mn i)*W:=Mm (by omega) Gs;have h2:=Rv (g_ h1 hle) hi;have dG:0<=W-Wt i:=by omega
 have U7:(Mx i-Mn i)*(W-Wt i)<=(L-(Mx i-Mn i))*Wt i:=by rw[Int.mul_sub (Mx i-Mn i) W (Wt i),Int.sub_mul L (Mx i-Mn i) (Wt i)];omega
 refine⟨by omega,fun j hj=>?_⟩;rcases lj.1 hj with hj|hj
 ·obtain⟨OJ,EC⟩:=hA j hj;have e1:=jd EC dG;have e2:(Mx i-Mn i)*(W-Wt i)*Wt j<=(L-(Mx i-Mn i))*Wt i*Wt j:=jd U7 (by omega);have e3:(Mx j-Mn j)*(W-Wt i)*Wt i<=(L-(Mx i-Mn i))*Wt j*Wt i:=by rw[eY (Mx j-Mn j),eY (L-(Mx i-Mn i))];refine g_ e1 ?_;rw[eY (Mx i-Mn i)];exact e2
  simp_all
 grind
theorem GZ{B}{i}{L W}(hi:0<Wt i)(hW:0<W)(hB:∀k∈B,0<Wt k/\(Mx i-Mn i)*Wt k<=(Mx k-Mn k)*Wt i)(yU:L*Wt i<(Mx i-Mn i)*W):∀k∈i::B,L*Wt k<(Mx k-Mn k)*W:=by
 intro k hk;rcases tk.1 hk with rfl|hk;·exact yU
 ·obtain⟨h1,h2⟩:=hB k hk;have e1:=Fe yU h1;have e2:(Mx i-Mn i)*Wt k*W<=(Mx k-Mn k)*Wt i*W:=jd h2 (by omega);have e3:L*Wt k*Wt i<(Mx k-Mn k)*W*Wt i:=by rw[eY L,eY (Mx k-Mn k)];refine oB e1 ?_;rw[eY (Mx i-Mn i)];exact e2
  simp_all
theorem jS{S}{L W}(hW:W=aA Wt S)(dL:0<W):0<=L-aA (fun j=>L*Wt j/W) S/\L-aA (fun j=>L*Wt j/W) S<S.length:=by
 have e:aA (fun j=>L*Wt j) S=W*aA (fun j=>L*Wt j/W) S+aA (fun j=>L*Wt j %W) S:=by rw[<-fy,<-fx];exact bo fun j _=>(Int.mul_ediv_add_emod _ _).symm
 rw[fy,<-hW]at e;have f0:0<=aA (fun j=>L*Wt j %W) S:=cy fun j _=>Bg _ (by omega);have f1:aA (fun j=>L*Wt j %W) S<=(S.length:Int)*(W-1):=eT fun j _=>by have:=Ff (L*Wt j) dL;omega
 have hS:S≠[]:=by intro h;rw[h,om]at hW;omega
 have hS1:(0:Int)<S.length:=by have:=ou.2 hS;omega
 obtain⟨q,hq⟩:=aj (aA (fun j=>L*Wt j/W) S);rw[hq]at e⊢;have e2:W*(L-q)=aA (fun j=>L*Wt j %W) S:=by rw[Int.mul_sub,je W L];omega
 refine⟨?_,?_⟩;·exact Int.le_of_mul_le_mul_left (by omega) dL
 ·refine Int.lt_of_mul_lt_mul_left (a:=W) ?_ (by omega);grind
structure bV(n:Nat)(Mn Mx Wt:Nat->Int)(r:Int)(a:Nat->Int)(A S:List Nat)(L W:Int)(m:Nat):Prop where
 perm:(A++S).Perm ((List.range n).filter fun j=>decide (0<Wt j))
 left:L=r-aA Mn (List.range n)-aA (fun j=>Mx j-Mn j) A
 pos:0<=L
 weight:W=aA Wt S
 full:∀j∈A,(Mx j-Mn j)*W<=L*Wt j
 open_:∀j∈S,L*Wt j<(Mx j-Mn j)*W
 miss:S≠[]->(m:Int)=L-aA (fun j=>L*Wt j/W) S
 none_:S=[]->m=0
 sorted:S.Pairwise fun i k=>L*Wt k %W<L*Wt i %W\/(L*Wt i %W=L*Wt k %W/\i<k)
 is:∀j,j<n->a j=if j∈A then Mx j else if j∈S then Mn j+L*Wt j/W+(if j∈S.take m then 1 else 0)else Mn j
theorem bV.facts{n}{r}{a}{A S}{L W}{m}(h:bV n Mn Mx Wt r a A S L W m):
 A.Nodup/\S.Nodup/\(∀j∈A,j∉S)/\(∀j∈A,j<n/\0<Wt j)/\(∀j∈S,j<n/\0<Wt j)/\(∀j,j<n->0<Wt j->j∈A\/j∈S):=by
 have hf:((List.range n).filter fun j=>decide (0<Wt j)).Nodup:=vw.filter _;have hn:=h.perm.nodup_iff.2 hf;rw[Mf]at hn;have hm:∀j,j∈A++S↔j<n/\0<Wt j:=fun j=>by rw[h.perm.mem_iff];simp
 grind
theorem FY{x y W:Int}(hW:0<W)(h:x<y*W):x/W+1<=y:=by have:=Int.ediv_lt_of_lt_mul hW h;omega
theorem bV.bds{n}{r}{a}{A S}{L W}{m}(h:bV n Mn Mx Wt r a A S L W m)(hw:∀j,Mn j<=Mx j)(hp:∀j,0<=Wt j):
 ∀j,j<n->Mn j<=a j/\a j<=Mx j/\(Wt j=0->a j=Mn j):=by
 obtain⟨hA,hS,hd,fA,fS,eI⟩:=h.facts;intro j hj;rw[h.is j hj];have:=hw j;have:=hp j;by_cases h1:j∈A;·grind
 ·rw[if_neg h1];by_cases h2:j∈S
  ·rw[if_pos h2];have dL:0<W:=by rw[h.weight];exact oB (fS j h2).2 (iO (fun k _=>hp k) h2)
   have:=FY dL (h.open_ j h2);have h0:0<=L*Wt j/W:=Bh (gQ h.pos (hp j)) (by omega);grind
  grind
theorem AN  S  (hS:S.Nodup)  m  (hm:m<=S.length):aA (fun j=>if j∈S.take m then 1 else 0) S=m:=by
 have e:aA (fun j=>if j∈S.take m then(1:Int)else 0) S=aA (fun j=>if j∈S.take m then(1:Int)else 0) (S.take m):=
  lf hS (hS.sublist (List.take_sublist _ _)) (fun j hj=>qk hj) (fun j _ hj=>if_neg hj);rw[e,bo (g:=fun _=>1) (fun j hj=>if_pos hj)];have:∀l:List Nat,aA (fun _=>(1:Int)) l=l.length:=by
  intro l;induction l with
  |nil=>rfl
  |cons a l ih=>grind[bN]
 grind
theorem bV.sum{n}{r}{a}{A S}{L W}{m}(h:bV n Mn Mx Wt r a A S L W m)(hp:∀j,0<=Wt j):
 (S≠[]->aA a (List.range n)=r)/\(S=[]->aA a (List.range n)=aA (fun j=>if 0<Wt j then Mx j else Mn j) (List.range n)/\L=r-aA a (List.range n)):=by
 obtain⟨hA,hS,hd,fA,fS,eI⟩:=h.facts;have hr:(List.range n).Nodup:=vw;have e0:aA a (List.range n)=aA Mn (List.range n)+aA (fun j=>(if j∈A then Mx j-Mn j else 0)+(if j∈S then L*Wt j/W+(if j∈S.take m then 1 else 0)else 0)) (List.range n):=by
  rw[<-fx];refine bo fun j hj=>?_;rw[h.is j (by grind)];by_cases h1:j∈A;·grind
  ·grind
 have eA:aA (fun j=>if j∈A then Mx j-Mn j else 0) (List.range n)=aA (fun j=>Mx j-Mn j) A:=by rw[lf (A:=A) hr hA (fun j hj=>by grind) (fun j _ hj=>if_neg hj)];exact bo fun j hj=>if_pos hj
 have eS:aA (fun j=>if j∈S then L*Wt j/W+(if j∈S.take m then 1 else 0)else 0) (List.range n)=aA (fun j=>L*Wt j/W) S+aA (fun j=>if j∈S.take m then 1 else 0) S:=by rw[lf (A:=S) hr hS (fun j hj=>by grind) (fun j _ hj=>if_neg hj),<-fx];exact bo fun j hj=>if_pos hj
 rw[fx,eA,eS]at e0;have hl:=h.left;refine⟨fun bG=>?_,fun he=>?_⟩
 ·have dL:0<W:=by obtain⟨x,hx⟩:=vx S bG;rw[h.weight];exact oB (fS x hx).2 (iO (fun k _=>hp k) hx)
  have hm:=h.miss bG;have hb:=jS (L:=L) h.weight dL;rw[<-hm]at hb;grind[AN]
 ·subst he;simp only[om]at e0;refine⟨?_,by omega⟩;refine bo fun j hj=>?_;rw[h.is j (by simpa using hj)];grind
theorem bV.tiles{n}{r}{a}{A S}{L W}{m}(h:bV n Mn Mx Wt r a A S L W m)(hw:∀j,Mn j<=Mx j)(hp:∀j,0<=Wt j):
 aA a (List.range n)=min r (aA (fun j=>if 0<Wt j then Mx j else Mn j) (List.range n)):=by
 have hs:=h.sum hp;have hb:=h.bds hw hp;by_cases he:S=[];·have:=hs.2 he;have:=h.pos;omega
 grind[aA,jZ]
theorem yI  d  (hd:∀i,i<d.length->0<=d[i]?.getD 0):∀  c   m   Y,c<=d.length->0<=m->m<=(d.take c).sum->
 ∃X,gb d c m Y=X++Y/\X.length=c/\(∀i,i<c->0<=X[i]?.getD 0/\X[i]?.getD 0<=d[i]?.getD 0)/\X.sum=(d.take c).sum-m/\(∀i k,i<k->k<c->X[i]?.getD 0<d[i]?.getD 0->X[k]?.getD 0=0)/\(m=0->∀i,i<c->X[i]?.getD 0=d[i]?.getD 0)
 |0,m,Y,_,h0,hm=>⟨[],rfl,rfl,fun i hi=>by omega,by grind,fun i k _ hk=>by omega,fun _ i hi=>by omega⟩
 |c+1,m,Y,hc,h0,hm=>by
  have hx:=hd c (by omega);have ht:(d.take (c+1)).sum=(d.take c).sum+d[c]?.getD 0:=by rw[l_ (by omega),dN (by omega),Mo];simp only[List.sum_cons,List.sum_nil,Mq];omega
  have Gy:0<=(d.take c).sum:=by
   have:∀k,k<=d.length->0<=(d.take k).sum:=by
    intro k hk;induction k with
    |zero=>simp
    |succ k ih=>have h1:=ih (by omega);have h2:=hd k (by omega);rw[l_ (by omega)];grind
   exact this c (by omega)
  obtain⟨x,Io⟩:=aj (d[c]?.getD 0);rw[Io]at hx ht;obtain⟨X,e,hl,hb,hs,hk,hz⟩:=yI d hd c (m-min m x) ((x-min m x)::Y) (by omega) (by omega) (by omega);refine⟨X++[x-min m x],by grind[gb],by simp[hl],?_,?_,?_,?_⟩;·grind
  all_goals grind
end
theorem JS(F:List Int)(bx fb fo fc:Nat)(W:World)(hb:W.cell? (az bx 0)=some (.slice (some (az fb fo)) F.length fc))(hF:∀j,j<F.length->W.cell? (az fb (fo+j))=some (Iq (F[j]?.getD 0)))(i k:Nat)(hi:i<F.length)(hk:k<F.length)(bH:F.length<=1099511627776):
 Cw 232 #[Iq i,Iq k,Pq bx] W fun e W'=>e=Rw (Iq (jw (F[k]?.getD 0) (F[i]?.getD 0)))/\∃q os,W'=grow (W.drewN q) os:=by
 obtain⟨n,hn⟩:=aj F.length;obtain⟨x,hx⟩:=aj (F[i]?.getD 0);obtain⟨y,hy⟩:=aj (F[k]?.getD 0);have c0:W.cell? (az fb (fo+i))=some (Iq x):=by rw[hF i hi,hx]
 have c1:W.cell? (az fb (fo+k))=some (Iq y):=by rw[hF k hk,hy]
 have mY:prog.follows .mixedOrders=true:=by kernel_rfl
 rw[hn]at hb hi hk bH;rw[hx,hy];have SY:(i:Int)<(n:Int):=by omega
 have hk':(k:Int)<(n:Int):=by omega
 obtain⟨z,hz⟩:=aj (jw y x);have HC:=qH<|fun m=>by have:=pM y x (W.drewN m);rw[hz]at this;exact this
 rw[hz];clear hF hn hx hy hz;go_enter func232,ntmps232;go_wp2_with fail;go_quiet(first|(go_at_call 231;exact(HC _).mono (fun e w' h=>⟨h.1,_,h.2⟩)));go_wp2;go_ret;exact⟨rfl,_,#[],(grow_empty _).symm⟩
theorem LV(W:World)  o1 o2  :∃q os,((W.alloc o1).alloc o2).drew=grow (W.drewN q) os:=
 ⟨1,#[o1]++#[o2],by rw[alloc_eq_grow,alloc_eq_grow,grow_grow];rfl⟩
theorem JP(n bx wb wo wc:Nat)(W:World)(hb:W.cell? (az bx 0)=some (.slice (some (az wb wo)) n wc))(i k:Nat)(a1 a2 a3 b1 b2 b3:Int)
 (ca1:W.cell? (az wb (wo+i*3))=some (Iq a1)) (ca2:W.cell? (az wb (wo+i*3+1))=some (Iq a2)) (ca3:W.cell? (az wb (wo+i*3+2))=some (Iq a3))
 (cb1:W.cell? (az wb (wo+k*3))=some (Iq b1)) (cb2:W.cell? (az wb (wo+k*3+1))=some (Iq b2)) (cb3:W.cell? (az wb (wo+k*3+2))=some (Iq b3))
 (ha:0<=a2-a1/\a2-a1<=1073741824/\0<=a3/\a3<=1073741824) (j4:0<=b2-b1/\b2-b1<=1073741824/\0<=b3/\b3<=1073741824) (hi:i<n) (hk:k<n) (bH:n<=1099511627776) (gU:bx<W.heap.size) (hwb:wb<W.heap.size):
 Cw 230 #[Iq i,Iq k,Pq bx] W fun e W'=>e=Rw (Iq (jw ((a2-a1)*b3) ((b2-b1)*a3)))/\∃q os,W'=grow (W.drewN q) os:=by
 have mY:prog.follows .mixedOrders=true:=by kernel_rfl
 have SY:(i:Int)<(n:Int):=by omega
 have hk':(k:Int)<(n:Int):=by omega
 obtain⟨da,hda⟩:=aj (a2-a1);obtain⟨db,ZG⟩:=aj (b2-b1);rw[hda]at ha⊢;rw[ZG]at j4⊢;obtain⟨p,hp⟩:=aj (da*b3);obtain⟨q,hq⟩:=aj (db*a3);have j5:0<=p/\p<=1152921504606846976:=by rw[<-hp];refine⟨gQ ha.1 j4.2.2.1,?_⟩;exact g_ (lm ha.2.1 j4.2.2.2 j4.2.2.1 (by omega)) (by decide)
 have Kh:0<=q/\q<=1152921504606846976:=by rw[<-hq];refine⟨gQ j4.1 ha.2.2.1,?_⟩;exact g_ (lm j4.2.1 ha.2.2.2 ha.2.2.1 (by omega)) (by decide)
 have w1:IntKind.i64.wrap da=da:=IntWalk.i64_in _ ⟨by omega,by omega⟩;have w2:IntKind.i64.wrap db=db:=IntWalk.i64_in _ ⟨by omega,by omega⟩;have w3:IntKind.i64.wrap p=p:=IntWalk.i64_in _ ⟨by omega,by omega⟩;have w4:IntKind.i64.wrap q=q:=IntWalk.i64_in _ ⟨by omega,by omega⟩;obtain⟨z,hz⟩:=aj (jw p q);have HC:=qH<|fun w'=>by have:=pM p q w';rw[hz]at this;exact this
 rw[hp,hq,hz];clear hz j5 Kh ha j4;go_enter func230,ntmps230;go_wp2_with fail;go_big_region;all_goals(go_wp2_with(go_at_call 231;refine(HC _).mono ?_;rintro e w5 ⟨rfl,rfl⟩))
 all_goals go_ret
 all_goals simp_all[LV]
theorem qS  x y  :jw x y<0↔x<y:=by grind[jw]
theorem Ek  x y  :-1<=jw x y/\jw x y<=1:=by grind[jw]
def ul(F:Int->Int)(i k:Int):Prop:=F k<F i\/(F i=F k/\i<k)
theorem K8  F   D  :Ord (fun i k=>jw (F k) (F i)) D (ul F)where
 lt:=fun x _ y _ h=>Or.inl ((qS _ _).1 h)
 ge:=fun x _ y _ zm h=>by
  have h1:¬F x<F y:=fun h2=>h ((qS _ _).2 h2);by_cases e:F x=F y;·exact Or.inr ⟨e,zm⟩
  ·exact Or.inl (by omega)
 trans:=fun x _ y _ z _ h1 h2=>by grind[ul]
 bd:=fun x _ y _=>Ek _ _
def yf(M V:Int->Int)(i k:Int):Prop:=M i*V k<M k*V i\/(M i*V k=M k*V i/\i<k)
theorem JD{a b c u v w:Int}(hu:0<u)(hv:0<v)(hw:0<w)(h1:a*v<=b*u)(h2:b*w<=c*v):a*w<=c*u:=by
 have e1:a*v*w<=b*u*w:=jd h1 (by omega);have e2:b*w*u<=c*v*u:=jd h2 (by omega);have e3:a*w*v<=c*u*v:=by rw[eY a w v,eY c u v];refine g_ e1 ?_;rw[eY b u w];exact e2
 simp_all
theorem JE{a b c u v w:Int}(hu:0<u)(hv:0<v)(hw:0<w)(h1:a*v<=b*u)(h2:b*w<=c*v)(hs:a*v<b*u\/b*w<c*v):a*w<c*u:=by
 have e1:a*v*w<=b*u*w:=jd h1 (by omega);have e2:b*w*u<=c*v*u:=jd h2 (by omega);have e3:a*w*v<c*u*v:=by
  rw[eY a w v,eY c u v];rcases hs with hs|hs;·refine oB (Fe hs hw) ?_;grind
  ·refine Int.lt_of_le_of_lt e1 ?_;rw[eY b u w];simp_all
 simp_all
theorem K7  M V   D  (hV:∀i∈D,0<V i):Ord (fun i k=>jw (M i*V k) (M k*V i)) D (yf M V)where
 lt:=fun x _ y _ h=>Or.inl ((qS _ _).1 h)
 ge:=fun x _ y _ zm h=>by
  have h1:¬M y*V x<M x*V y:=fun h2=>h ((qS _ _).2 h2);by_cases e:M x*V y=M y*V x;·exact Or.inr ⟨e,zm⟩
  ·exact Or.inl (by omega)
 trans:=fun x hx y hy z hz h1 h2=>by
  have l1:M x*V y<=M y*V x:=by rcases h1 with h|⟨h,_⟩<;>omega
  have l2:M y*V z<=M z*V y:=by rcases h2 with h|⟨h,_⟩<;>omega
  by_cases hs:M x*V y<M y*V x\/M y*V z<M z*V y;·exact Or.inl (JE (hV x hx) (hV y hy) (hV z hz) l1 l2 hs)
  ·have a1:¬M x*V y<M y*V x:=fun h=>hs (Or.inl h);have a2:¬M y*V z<M z*V y:=fun h=>hs (Or.inr h);have b1:x<y:=by rcases h1 with h|⟨_,h⟩;exact(a1 h).elim;exact h
   have b2:y<z:=by rcases h2 with h|⟨_,h⟩;exact(a2 h).elim;exact h
   have c1:=JD (hV x hx) (hV y hy) (hV z hz) l1 l2;by_cases e:M x*V z=M z*V x;·exact Or.inr ⟨e,by omega⟩
   ·exact Or.inl (by omega)
 bd:=fun x _ y _=>Ek _ _
theorem FU(F:List Int)  bx fb fo fc blk   w0  (hb:w0.cell? (az bx 0)=some (.slice (some (az fb fo)) F.length fc)) (hF:∀j,j<F.length->w0.cell? (az fb (fo+j))=some (Iq (F[j]?.getD 0))) (D:List Int) (hD:∀x∈D,∃j:Nat,x=j/\j<F.length) (bH:F.length<=1099511627776) (h1:bx≠blk) (h2:fb≠blk):
 BI 232 #[Pq bx] (fun i k=>jw (F[k.toNat]?.getD 0) (F[i.toNat]?.getD 0)) D w0 blk:=by intro W hW x hx y hy;obtain⟨i,rfl,hi⟩:=hD x hx;obtain⟨k,rfl,hk⟩:=hD y hy;exact JS F bx fb fo fc W (hW.cell hb (by grind)) (fun j hj=>hW.cell (hF j hj) (by grind)) i k hi hk bH
theorem FT  n bx wb wo wc blk  (Mn Mx Wt:Nat->Int)  w0  (hb:w0.cell? (az bx 0)=some (.slice (some (az wb wo)) n wc))
 (hW:∀j,j<n->w0.cell? (az wb (wo+j*3))=some (Iq (Mn j))/\w0.cell? (az wb (wo+j*3+1))=some (Iq (Mx j))/\w0.cell? (az wb (wo+j*3+2))=some (Iq (Wt j)))
 (hR:∀j,j<n->0<=Mx j-Mn j/\Mx j-Mn j<=1073741824/\0<=Wt j/\Wt j<=1073741824) (D:List Int) (hD:∀x∈D,∃j:Nat,x=j/\j<n) (bH:n<=1099511627776) (h1:bx≠blk) (h2:wb≠blk) (s1:bx<w0.heap.size) (s2:wb<w0.heap.size):
 BI 230 #[Pq bx] (fun i k=>jw ((Mx i.toNat-Mn i.toNat)*Wt k.toNat) ((Mx k.toNat-Mn k.toNat)*Wt i.toNat)) D w0 blk:=by intro W hg x hx y hy;obtain⟨i,rfl,hi⟩:=hD x hx;obtain⟨k,rfl,hk⟩:=hD y hy;exact JP n bx wb wo wc W (hg.cell hb (by grind)) i k (Mn i) (Mx i) (Wt i) (Mn k) (Mx k) (Wt k) (hg.cell (hW i hi).1 (by grind)) (hg.cell (hW i hi).2.1 (by grind)) (hg.cell (hW i hi).2.2 (by grind)) (hg.cell (hW k hk).1 (by grind)) (hg.cell (hW k hk).2.1 (by grind)) (hg.cell (hW k hk).2.2 (by grind)) (hR i hi) (hR k hk) hi hk bH (bn s1 hg.size) (bn s2 hg.size)
