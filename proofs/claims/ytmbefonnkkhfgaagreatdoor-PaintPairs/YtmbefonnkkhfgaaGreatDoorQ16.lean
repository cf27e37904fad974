import Derived.Test.YtmbefonnkkhfgaaGreatDoorQ00
import Derived.Test.YtmbefonnkkhfgaaGreatDoorQ15
import Derived.Shelf.Abstract
import Derived.Shelf.SlSortCmp.QuietGrown
set_option linter.unusedVariables false
set_option maxRecDepth 100000
set_option maxHeartbeats 16000000
namespace Go.Proofs.YtmbefonnkkhfgaaGreatDoor
section
open Go.RowKit Go.Sort Go.Proofs.Tryz
def CmpG(g:Nat)(lb:Array Value)(cf:Int->Int->Int)(D:List Int)(w0:World)(blk:Nat):Prop:=
 ∀W,w0.grownBy W (some blk)->∀x∈D,∀y∈D,Calls prog g (#[Iq x,Iq y]++lb) W fun e W'=>e=.returned (Iq (cf x y))∧∃q os,W'=grow (W.drewN q) os
theorem below_grow(W:World)(q:Nat)(os:Array Obj):Below W.heap.size W (grow (W.drewN q) os):=
 ⟨rfl,rfl,rfl,by show _≤(W.heap++os).size;rw[Array.size_append];omega,fun k hk=>by show(W.heap++os)[k]?=_;rw[Array.getElem?_append_left hk]⟩
theorem CmpG.ok{g:Nat}{lb:Array Value}{cf:Int->Int->Int}{D:List Int}{w0:World}{blk:Nat}(h:CmpG g lb cf D w0 blk):CmpOk g lb cf D w0 blk:=
 fun W hW x hx y hy=>(h W hW x hx y hy).mono fun e W' ⟨he,q,os,hq⟩=>⟨he,by rw[hq];exact below_grow W q os⟩
theorem last_of(M:List Int):M=[]∨∃M' y,M=M'++[y]:=by
 rcases List.eq_nil_or_concat M with h|⟨M',y,h⟩;·exact Or.inl h
 ·exact Or.inr ⟨M',y,by rw[h,List.concat_eq_append]⟩
theorem ins_perm(A M1 M2:List Int)(k:Nat)(hk:k<A.length)(h:(M1++M2).Perm (A.take k)):(M1++[A[k]?.getD 0]++M2).Perm (A.take (k+1)):=by rw[(take_next A k hk).1];refine List.Perm.trans ?_ (List.Perm.append_right _ h);rw[List.append_assoc,List.append_assoc];exact List.Perm.append_left _ List.perm_append_comm
theorem ins_pair{R:Int->Int->Prop}(M1 M2:List Int)(x:Int)(h:(M1++M2).Pairwise R)(h1:∀y∈M1,R y x)(h2:∀y∈M2,R x y):(M1++[x]++M2).Pairwise R:=by
 have hp:=List.pairwise_append.1 h;refine List.pairwise_append.2 ⟨List.pairwise_append.2 ⟨hp.1,List.pairwise_singleton _ _,?_⟩,hp.2.1,?_⟩;·intro y hy z hz;rw[List.mem_singleton]at hz;subst hz;exact h1 y hy
 ·intro y hy z hz;rcases List.mem_append.1 hy with h3|h3;·exact hp.2.2 y h3 z hz
  ·rw[List.mem_singleton]at h3;subst h3;exact h2 z hz
def Sorted(w w':World)(blk off:Nat)(R:Int->Int->Prop)(P A S:List Int):Prop:=
 (∃M:List Int,M.Perm A∧M.Pairwise R∧IRow w' blk off (P++M++S))∧w.grownBy w' (some blk)
theorem ins_any(g:Nat)(lb:Array Value)(eg:∀args w,(callFunc g args).run prog w=.ok (.enter g args) w)(cf:Int->Int->Int)(D:List Int)(R:Int->Int->Prop)(hO:Ord cf D R)(w0:World)(blk off cap:Nat)(hcmp:CmpG g lb cf D w0 blk)(P A S:List Int)(w:World)(n a b:Nat)(hw0:w0.grownBy w (some blk))(h:IRow w blk off (P++A++S))(hAD:∀x∈A,x∈D)(hasc:A.Pairwise (·<·))(hn:(P++A++S).length=n)(hlen:n≤1099511627776)(ha:P.length=a)(hb:P.length+A.length=b):
 Calls prog 215 #[.slice (some ⟨blk,off,none⟩) n cap,Iq a,Iq b,.func (.func g) #[] lb] w fun e w'=>e=.returned (.tuple #[])∧Sorted w w' blk off R P A S:=by
 have HR:=qH<|h;have HO:=qH<|hO;have HW0:=qH<|hw0;have HCM:=qH<|hcmp;have HAD:=qH<|hAD;have HAS:=qH<|hasc;have hmx:prog.follows .mixedOrders=true:=by kernel_rfl
 have hbn:b≤n:=by rw[<-hb,<-hn];simp only[List.length_append];omega
 have hb1:b≤a+A.length:=by omega
 have HN:Hid (P.length+A.length+S.length=n):=by show _=_;rw[<-hn];simp only[List.length_append]
 have HA:=qH<|ha;go_enter func215,ntmps215;go_wp2;go_loopw[8] (fun i wr=>∃(u k:Nat) (M:List Int),i=Iq u∧a+k≤u∧u≤a+k∧1≤k∧(k≤A.length∨k=1)∧Hid (M.Perm (A.take k))∧Hid (M.Pairwise R)∧Hid (IRow wr blk off (P++M++A.drop k++S))∧Hid (w.grownBy wr (some blk))) (fun i _=>b+2-(intOf i).toNat);case atStart=>
  refine⟨a+1,1,A.take 1,by go_num,by omega,by omega,by omega,Or.inr rfl,List.Perm.refl _,?_,?_,grown_refl _ _⟩;·show List.Pairwise R _;match A with
   |[]=>exact List.Pairwise.nil
   |x::l=>exact List.pairwise_singleton _ _
  ·show IRow _ _ _ _;have:=HR.out;rw[List.append_assoc P,List.take_append_drop];exact this
 case round=>
  obtain⟨u,k,M,rfl,hu1,hu2,hk1,hkA,HM,HMP,hrow,hgr⟩:=hrel;by_cases hlt:k<A.length
  ·have hlt':(u:Int)<(b:Int):=by omega
   obtain⟨x,hx⟩:=nmd (A[k]?.getD 0);have HX:=qH<|hx;have HXD:Hid (x∈D):=by show x∈D;rw[<-hx];exact HAD _ (mem_at hlt)
   have HML:Hid (M.length=k):=by show _=_;rw[HM.length_eq,List.length_take];omega
   have HMD:Hid (∀y∈M,y∈D∧y<x):=by intro y hy;obtain⟨t,ht,htl,e⟩:=mem_take_at (HM.mem_iff.1 hy);rw[<-e,<-hx];exact⟨HAD _ (mem_at htl),pair_at HAS ht hlt⟩
   have hrow':Hid (IRow wr blk off (P++M++[x]++[]++(A.drop (k+1)++S))):=by have:=hrow.out;rw[(take_next A k hlt).2,hx]at this;show IRow _ _ _ _;simpa[List.append_assoc]using this
   go_wp2;go_loopw[9] (fun j wr=>∃(v:Nat) (M1 M2:List Int),j=Iq v∧a+M1.length≤v∧v≤a+M1.length∧M1.length≤k∧Hid (M=M1++M2)∧Hid (∀y∈M2,R x y)∧Hid (IRow wr blk off (P++M1++[x]++M2++(A.drop (k+1)++S)))∧Hid (w.grownBy wr (some blk))) (fun j _=>(intOf j).toNat);case atStart=>exact⟨u,M,[],rfl,by rw[HML.out];omega,by rw[HML.out];omega,by rw[HML.out];omega,by show _=_;simp,(fun y hy=>by cases hy),hrow',hgr⟩
   case round=>
    obtain⟨v,M1,M2,rfl,hv1,hv2,hvk,HMM,H2,hrow2,hgr2⟩:=hrel;have HDone:Hid ((∀y∈M1,R y x)->∃M',List.Perm M' (A.take (k+1))∧M'.Pairwise R∧(P++M1++[x]++M2++(A.drop (k+1)++S))=P++M'++A.drop (k+1)++S):=by
     intro h1;refine⟨M1++[x]++M2,?_,?_,by simp[List.append_assoc]⟩;·have:=HM.out;rw[HMM.out]at this;have:=ins_perm A M1 M2 k hlt this;rw[HX.out]at this;exact this
     ·have:=HMP.out;rw[HMM.out]at this;exact ins_pair M1 M2 x this h1 H2
    rcases last_of M1 with rfl|⟨M',y,rfl⟩
    ·have hva:v=a:=by simp at hv1 hv2;omega
     subst hva;obtain⟨M',d1,d2,d3⟩:=HDone (fun y hy=>by cases hy);have hrow3:Hid (IRow wr blk off (P++M'++A.drop (k+1)++S)):=by have:=hrow2.out;rw[d3]at this;exact this
     have D1:=qH<|d1;have D2:=qH<|d2;have hgr3:=qH<|hgr2.out;go_wp2_with fail;go_quiet(fail);go_wp2;go_roundw;case rel=>exact⟨u+1,k+1,M',by go_num,by omega,by omega,by omega,Or.inl (by omega),D1,D2,hrow3.drewN _,grown_trans hgr3 (grown_drewN _ _ _)⟩
     case measure=>simp[intOf];omega
    ·have hMl:(M'++[y]).length=M'.length+1:=by simp
     rw[hMl]at hv1 hv2 hvk;obtain⟨q,hq⟩:=nmd (a+M'.length);have hqv:q+1=v:=by omega
     have hvi:(v:Int)-1=(q:Int):=by omega
     have hav:(a:Int)<(v:Int):=by omega
     have hvn:(v:Int)<(n:Int):=by omega
     have hqn:(q:Int)<(n:Int):=by omega
     have hwq:IntKind.i64.wrap (q:Int)=(q:Int):=IntWalk.i64_in _ ⟨by omega,by omega⟩;have hXl:(P++M').length=q:=by have:=HA.out;rw[List.length_append];omega
     have HYM:Hid (y∈M):=by show y∈M;rw[HMM.out];simp
     have hdx:((P++M')++[y]++[x]++(M2++(A.drop (k+1)++S)))[q]?.getD 0=y:=by rw[<-hXl];exact(at_two _ _ _ _).1
     have hdy:((P++M')++[y]++[x]++(M2++(A.drop (k+1)++S)))[v]?.getD 0=x:=by rw[<-hqv,<-hXl];exact(at_two _ _ _ _).2
     have HL2:((P++M')++[y]++[x]++(M2++(A.drop (k+1)++S))).length=n:=by have h1:=HML.out;rw[HMM.out]at h1;have:=HN.out;simp only[List.length_append,List.length_drop,List.length_cons,List.length_nil]at*;omega
     have hr1:IRow wr blk off ((P++M')++[y]++[x]++(M2++(A.drop (k+1)++S))):=by have:=hrow2.out;simpa[List.append_assoc]using this
     have c0:=cell_grown hr1.1 (by rw[(hr1.2 q (by omega)).1,hdx]);have c1:=cell_grown hr1.1 (by rw[(hr1.2 v (by omega)).1,hdy]);have hcg:=fun n' os'=>
      HCM.out _ (grown_trans (grown_trans HW0 hgr2) (grown_below (below_grow wr n' os'))) x HXD y (HMD y HYM).1;obtain⟨z,hz⟩:=nmd (cf x y);have HZ:=qH<|hz;have HR1:=qH<|hr1;have HQV:Hid (q+1=v∧(P++M').length=q):=⟨hqv,hXl⟩;have HQ:=qH<|hq;have HDX:=qH<|hdx;have HDY:=qH<|hdy;have HLL:=qH<|HL2;rw[hz]at hcg;clear hq hz hr1 hXl hqv hdx hdy HL2 hMl hrow2;go_wp2_with fail;go_quiet_grown(first|(go_at_fn g;refine Calls.grown_of (hcg _ _)));have HR2:Hid (IRow (grow (wr.drewN nq) osq) blk off ((P++M')++[y]++[x]++(M2++(A.drop (k+1)++S)))):=HR1.below (below_grow _ _ _);have hgr3:Hid (w.grownBy (grow (wr.drewN nq) osq) (some blk)):=grown_trans hgr2 (grown_below (below_grow _ _ _));clear HR1 hgr2 c0 c1 hcg;generalize grow (wr.drewN nq) osq=wc at HR2 hgr3⊢;clear nq osq;by_cases hz0:z<0
     ·have hd:decide (z<0)=true:=by simp[hz0]
      rw[hd];have hyx:=HO.lt x HXD y (HMD y HYM).1 (by rw[HZ.out];exact hz0);have H2':Hid (∀y'∈y::M2,R x y'):=by
       intro y' hy';rcases List.mem_cons.1 hy' with rfl|h3;·exact hyx
       ·exact H2 y' h3
      have HMM':Hid (M=M'++(y::M2)):=by show _=_;rw[HMM.out];simp
      have hqn':q<n:=by omega
      have hvn':v<n:=by omega
      have c0:wc.cell? ⟨blk,off+q,none⟩=some (Iq y):=by rw[(HR2.2 q (by rw[HLL.out];omega)).1,HDX.out]
      have f0:=(HR2.2 q (by rw[HLL.out];omega)).2;have c1:wc.cell? ⟨blk,off+v,none⟩=some (Iq x):=by rw[(HR2.2 v (by rw[HLL.out];omega)).1,HDY.out]
      have f1:=(HR2.2 v (by rw[HLL.out];omega)).2;have HNew:Hid (IRow ((wc.setCell ⟨blk,off+v,none⟩ (Iq y)).setCell ⟨blk,off+q,none⟩ (Iq x)) blk off (P++M'++[x]++(y::M2)++(A.drop (k+1)++S))):=by have:=irow_set2 HR2 v q (by rw[HLL.out];omega) (by rw[HLL.out];omega);rw[HDX.out,HDY.out,swp_comm _ _ _ (by rw[HLL.out];omega) (by rw[HLL.out];omega)]at this;have hs2:=swp_next (P++M') y x (M2++(A.drop (k+1)++S));rw[HQV.2,HQV.1]at hs2;rw[hs2]at this;show IRow _ _ _ _;simpa[List.append_assoc]using this
      have HG:Hid (w.grownBy ((wc.setCell ⟨blk,off+v,none⟩ (Iq y)).setCell ⟨blk,off+q,none⟩ (Iq x)) (some blk)):=
       grown_trans hgr3 (grown_trans (grown_set _ _ _ _) (grown_set _ _ _ _));have hqv:q<v:=by have:=HQV.1;omega
      clear HR2 hgr3 hyx HDone;go_wp2;go_big_region;go_wp2;go_roundw;case rel=>exact⟨q,M',y::M2,rfl,by have:=HQ.out;omega,by have:=HQ.out;omega,by omega,HMM',H2',HNew,grown_drew HG⟩
      case measure=>simp[intOf];omega
     ·have hd:decide (z<0)=false:=by simp[hz0]
      rw[hd];have hyx:=HO.ge y (HMD y HYM).1 x HXD (HMD y HYM).2 (by rw[HZ.out];exact hz0);obtain⟨M3,d1,d2,d3⟩:=HDone (by
       intro y' hy';rcases List.mem_append.1 hy' with h3|h3;·have hp:=HMP.out;rw[HMM.out]at hp;have h4:=(List.pairwise_append.1 (List.pairwise_append.1 hp).1).2.2 y' h3 y (by simp);exact HO.trans y' (HMD y' (by rw[HMM.out];simp[h3])).1 y (HMD y HYM).1 x HXD h4 hyx
       ·rw[List.mem_singleton]at h3;subst h3;exact hyx);have hrow3:Hid (IRow wc blk off (P++M3++A.drop (k+1)++S)):=by have:=HR2.out;show IRow _ _ _ _;rw[<-d3];simpa[List.append_assoc]using this
      have D1:=qH<|d1;have D2:=qH<|d2;clear d1 d2 d3 HR2 HDone hyx;go_wp2;go_roundw;case rel=>exact⟨u+1,k+1,M3,by go_num,by omega,by omega,by omega,Or.inl (by omega),D1,D2,hrow3,hgr3⟩
      case measure=>simp[intOf];omega
  ·have hlt':¬(u:Int)<(b:Int):=by omega
   have hrow3:Hid (IRow wr blk off (P++M++S)):=by have:=hrow.out;rw[List.drop_eq_nil_of_le (by omega)]at this;show IRow _ _ _ _;simpa[List.append_assoc]using this
   have HM':Hid (M.Perm A):=by have:=HM.out;rw[List.take_of_length_le (by omega)]at this;exact this
   clear hrow HM;go_wp2;go_end0;exact⟨rfl,⟨M,HM',HMP,hrow3⟩,hgr⟩
end
section
open Go.RowKit Go.Sort Go.Proofs.Tryz
inductive Runs(R:Int->Int->Prop)(s:Nat):List Int->List Int->Prop
 |nil:Runs R s [] []
 |cons (T M L d:List Int):M.Perm T->M.Pairwise R->T.length≤s->(T.length=s∨L=[])->Runs R s L d->Runs R s (T++L) (M++d)
def Done(R:Int->Int->Prop)(s:Nat)(L1 Y:List Int):Prop:=∀L' d',Runs R s L' d'->Runs R s (L1++L') (Y++d')
theorem Runs.len{R:Int->Int->Prop}{s:Nat}{L d:List Int}(h:Runs R s L d):d.length=L.length:=by
 induction h with
 |nil=>rfl
 |cons T M L d hp _ _ _ _ ih=>rw[List.length_append,List.length_append,hp.length_eq,ih]
theorem Runs.mem{R:Int->Int->Prop}{s:Nat}{L d:List Int}(h:Runs R s L d):d.Perm L:=by
 induction h with
 |nil=>exact List.Perm.refl _
 |cons T M L d hp _ _ _ _ ih=>exact hp.append ih
theorem Runs.split{R:Int->Int->Prop}{s:Nat}{L d:List Int}(h:Runs R s L d)(hs:s<d.length):∃T M L' d',L=T++L'∧d=M++d'∧M.Perm T∧M.Pairwise R∧T.length=s∧Runs R s L' d':=by
 cases h with
 |nil=>simp at hs
 |cons T M L d hp hw hl hf hr=>
  rcases hf with hf|rfl;·exact⟨T,M,L,d,rfl,rfl,hp,hw,hf,hr⟩
  ·have:=hr.len;have:=hp.length_eq;simp only[List.length_append,List.length_nil]at*;omega
theorem Runs.one{R:Int->Int->Prop}{s:Nat}{L d:List Int}(h:Runs R s L d)(hs0:0<s)(hs:d.length≤s):d.Perm L∧d.Pairwise R:=by
 cases h with
 |nil=>exact⟨List.Perm.refl _,List.Pairwise.nil⟩
 |cons T M L d hp hw hl hf hr=>
  have h1:=hr.len;have h2:=hp.length_eq;have:d=[]:=by
   rcases hf with hf|rfl;·simp only[List.length_append]at hs;exact List.eq_nil_of_length_eq_zero (by omega)
   ·exact List.eq_nil_of_length_eq_zero (by simpa using h1)
  subst this;have:L=[]:=List.eq_nil_of_length_eq_zero (by simpa using h1.symm);subst this;simpa using⟨hp,hw⟩
theorem Runs.single{R:Int->Int->Prop}{s:Nat}{L d:List Int}(hp:d.Perm L)(hw:d.Pairwise R)(hs:L.length≤s):Runs R s L d:=by have:=Runs.cons (R:=R) (s:=s) L d [] [] hp hw hs (Or.inr rfl) .nil;simpa using this
theorem Done.nil{R:Int->Int->Prop}{s:Nat}:Done R s [] []:=fun _ _ h=>h
theorem Done.snoc{R:Int->Int->Prop}{s:Nat}{L1 Y T M:List Int}(h:Done R s L1 Y)(hp:M.Perm T)(hw:M.Pairwise R)(hs:T.length=s):Done R s (L1++T) (Y++M):=fun L' d' hr=>by rw[List.append_assoc,List.append_assoc];exact h _ _ (Runs.cons T M L' d' hp hw (by omega) (Or.inl hs) hr)
theorem stable_any(g:Nat)(lb:Array Value)(eg:∀args w,(callFunc g args).run prog w=.ok (.enter g args) w)(cf:Int->Int->Int)(D:List Int)(R:Int->Int->Prop)(hO:Ord cf D R)(w0:World)(blk off cap:Nat)(hcmp:CmpG g lb cf D w0 blk)(L:List Int)(w:World)(n:Nat)(hw0:w0.grownBy w (some blk))(h:IRow w blk off L)(hD:∀x∈L,x∈D)(hasc:L.Pairwise (·<·))(hn:L.length=n)(hlen:n≤1099511627776):
 Calls prog 204 #[.slice (some ⟨blk,off,none⟩) n cap,Iq n,.func (.func g) #[] lb] w fun e w'=>e=.returned (.tuple #[])∧Sorted w w' blk off R [] L []:=by
 have HR:=qH<|h;have HW0:=qH<|hw0;have HD:=qH<|hD;have HAS:=qH<|hasc;have HN:=qH<|hn;have CI:=qH<|
  fun P A S W a b h1 h2 h3 h4 h5 h6 h7=>ins_any g lb eg cf D R hO w0 blk off cap hcmp P A S W n a b (grown_trans HW0 h1) h2 h3 h4 h5 hlen h6 h7;have CS:=qH<|
  fun P A B S W a m b h1 h2 h3 h4 h5 h6 h7 h8 h9 h10 h11 h12 h13=>sym_any g lb eg cf D R hO w0 blk off cap hcmp.ok (A.length+B.length) P A B S W n a m b (Nat.le_refl _) (grown_trans HW0 h1) h2 h3 h4 h5 h6 h7 h8 h9 h10 hlen h11 h12 h13;go_enter func204,ntmps204;go_wp2;go_loopw[7,8] (fun i j wr=>∃(a b:Nat) (L1 T Y:List Int),i=Iq a∧j=Iq b∧b≤a+20∧a+20≤b∧a≤n∧Hid (a+T.length=n)∧Hid (Y.length=a)∧Hid (L=L1++T)∧Hid (Done R 20 L1 Y)∧Hid (IRow wr blk off (Y++T))∧Hid (w.grownBy wr (some blk))) (fun i _ _=>n-(intOf i).toNat);case atStart=>exact⟨0,20,[],L,[],by go_num,by go_num,by omega,by omega,by omega,by show _=_;have:=HN.out;omega,by show _=_;rfl,by show _=_;rfl,Done.nil,HR,grown_refl _ _⟩
 case round=>
  obtain⟨a,b,L1,T,Y,rfl,rfl,hb1,hb2,han,HT,HY,HL,HDn,hrow,hgr⟩:=hrel;by_cases hbn:b≤n
  ·have hbn':(b:Int)≤(n:Int):=by omega
   have C:Hid (Calls prog 215 #[.slice (some ⟨blk,off,none⟩) n cap,Iq a,Iq b,.func (.func g) #[] lb] wr fun e w'=>e=.returned (.tuple #[])∧Sorted wr w' blk off R Y (T.take 20) (T.drop 20)):=by
    have:=HT.out;have:=HY.out;refine CI Y (T.take 20) (T.drop 20) wr a b hgr ?_ ?_ ?_ ?_ HY ?_;·rw[List.append_assoc,List.take_append_drop];exact hrow
    ·intro x hx;exact HD x (by rw[HL.out];exact List.mem_append.2 (Or.inr (List.mem_of_mem_take hx)))
    ·have h1:=HAS.out;rw[HL.out]at h1;exact(List.pairwise_append.1 h1).2.1.sublist (List.take_sublist _ _)
    ·simp only[List.length_append,List.length_take,List.length_drop];omega
    ·rw[List.length_take];omega
   go_wp2_with fail;refine C.mono ?_;rintro e w2 ⟨rfl,⟨M,m1,m2,r2⟩,g2⟩;have HT':Hid (b+(T.drop 20).length=n):=by show _=_;have:=HT.out;rw[List.length_drop];omega
   have ht20:(T.take 20).length=20:=by have:=HT.out;rw[List.length_take];omega
   have HY':Hid ((Y++M).length=b):=by show _=_;have:=HY.out;rw[List.length_append,m1.length_eq];omega
   have HL':Hid (L=(L1++T.take 20)++T.drop 20):=by show _=_;rw[List.append_assoc,List.take_append_drop];exact HL
   have HDn':=qH<|HDn.snoc m1 m2 ht20;have hrow':=qH<|r2;have hgr':=qH<|grown_trans hgr g2;go_wp2;go_roundw;case rel=>exact⟨b,b+20,L1++T.take 20,T.drop 20,Y++M,rfl,by go_num,by omega,by omega,hbn,HT',HY',HL',HDn',hrow',hgr'⟩
   case measure=>simp[intOf];omega
  ·have hbn':¬(b:Int)≤(n:Int):=by omega
   have C:Hid (Calls prog 215 #[.slice (some ⟨blk,off,none⟩) n cap,Iq a,Iq n,.func (.func g) #[] lb] wr fun e w'=>e=.returned (.tuple #[])∧Sorted wr w' blk off R Y T []):=by
    have:=HT.out;have:=HY.out;refine CI Y T [] wr a n hgr (by simpa using hrow.out) ?_ ?_ ?_ HY (by omega);·intro x hx;exact HD x (by rw[HL.out];exact List.mem_append.2 (Or.inr hx))
    ·have h1:=HAS.out;rw[HL.out]at h1;exact(List.pairwise_append.1 h1).2.1
    ·simp only[List.length_append,List.length_nil];omega
   go_wp2_with fail;refine C.mono ?_;rintro e w2 ⟨rfl,⟨M,m1,m2,r2⟩,g2⟩;have HRn:Hid (Runs R 20 L (Y++M)):=by show Runs R 20 L (Y++M);rw[HL.out];exact HDn T M (Runs.single m1 m2 (by have:=HT.out;omega))
   have hrow':Hid (IRow w2 blk off (Y++M)):=by have:=r2;show IRow _ _ _ _;simpa using this
   have hgr':=qH<|grown_trans hgr g2;go_wp2;go_loopw[6] (fun i wr=>∃(s:Nat) (d:List Int),i=Iq s∧20≤s∧s≤2*n+20∧Hid (Runs R s L d)∧Hid (IRow wr blk off d)∧Hid (w.grownBy wr (some blk))) (fun i _=>n-(intOf i).toNat);case atStart=>exact⟨20,Y++M,by go_num,by omega,by omega,HRn,hrow',hgr'⟩
   case round=>
    obtain⟨s,d,rfl,hs20,hsn,HRn2,hrow2,hgr2⟩:=hrel;by_cases hsl:s<n
    ·have hsl':(s:Int)<(n:Int):=by omega
     obtain⟨t,ht⟩:∃t:Nat,2*s=t:=⟨_,rfl⟩;have hti:(2:Int)*(s:Int)=(t:Int):=by omega
     have htj:(s:Int)*(2:Int)=(t:Int):=by omega
     go_wp2;go_loopw[7,8] (fun i j wr=>∃(a b:Nat) (L1 L' Y d':List Int),i=Iq a∧j=Iq b∧b≤a+t∧a+t≤b∧a≤n∧Hid (a+d'.length=n)∧Hid (Y.length=a)∧Hid (L=L1++L')∧Hid (Done R t L1 Y)∧Hid (Runs R s L' d')∧Hid (IRow wr blk off (Y++d'))∧Hid (w.grownBy wr (some blk))) (fun i _ _=>n-(intOf i).toNat);case atStart=>exact⟨0,t,[],L,[],d,by go_num,rfl,by omega,by omega,by omega,by show _=_;have:=HN.out;have:=HRn2.len;omega,by show _=_;rfl,by show _=_;rfl,Done.nil,HRn2,hrow2,hgr2⟩
     case round=>
      obtain⟨a,b,L1,L',Y,d',rfl,rfl,hb1,hb2,han,HT,HY,HL,HDn,HRn3,hrow3,hgr3⟩:=hrel;by_cases hbn:b≤n
      ·have hbn':(b:Int)≤(n:Int):=by omega
       obtain⟨T1,M1,L2,d2,e1,e2,p1,w1,l1,r1⟩:=HRn3.split (by have:=HT.out;omega);have hd2:s≤d2.length:=by have h1:=HT.out;rw[e2,List.length_append,p1.length_eq]at h1;omega
       obtain⟨T2,M2,L3,d3,f1,f2,p2,w2',l2,r2⟩:∃T M L' d',L2=T++L'∧d2=M++d'∧M.Perm T∧M.Pairwise R∧T.length=s∧Runs R s L' d':=by
        by_cases hq:s<d2.length;·exact r1.split hq
        ·have ho:=r1.one (by omega) (by omega);exact⟨L2,d2,[],[],by simp,by simp,ho.1,ho.2,by have:=r1.len;omega,.nil⟩
       subst e1;subst e2;subst f1;subst f2;obtain⟨m,hm⟩:∃m:Nat,a+s=m:=⟨_,rfl⟩;have hmi:(a:Int)+(s:Int)=(m:Int):=by omega
       have hL:=HL.out;have hAS:=HAS.out;rw[hL]at hAS;have hA1:=(List.pairwise_append.1 hAS).2.1;have C:Hid (Calls prog 216 #[.slice (some ⟨blk,off,none⟩) n cap,Iq a,Iq m,Iq b,.func (.func g) #[] lb] wr fun e w'=>e=.returned (.tuple #[])∧Merged wr w' blk off R Y M1 M2 d3):=by
        have h1:=HT.out;have h2:=HY.out;have q1:=p1.length_eq;have q2:=p2.length_eq;simp only[List.length_append]at h1;refine CS Y M1 M2 d3 wr a m b hgr3 (by simpa[List.append_assoc]using hrow3.out) ?_ ?_ w1 w2' ?_ (by omega) (by omega) (by simp only[List.length_append];omega) HY (by omega) (by omega);·intro x hx;exact HD x (by rw[hL];simp[p1.mem_iff.1 hx])
        ·intro x hx;exact HD x (by rw[hL];simp[p2.mem_iff.1 hx])
        ·intro x hx y hy;exact(List.pairwise_append.1 hA1).2.2 x (p1.mem_iff.1 hx) y (List.mem_append.2 (Or.inl (p2.mem_iff.1 hy)))
       have KP:Hid (M1.Perm T1∧M2.Perm T2∧T1.length=s∧T2.length=s):=⟨p1,p2,l1,l2⟩;have KR:=qH<|r2;go_wp2_with fail;refine C.mono ?_;rintro e w2 ⟨rfl,⟨M,m1,m2,r2⟩,g2⟩;have HT':Hid (b+d3.length=n):=by show _=_;have h1:=HT.out;have q1:=KP.1.length_eq;have q2:=KP.2.1.length_eq;have q3:=KP.2.2;simp only[List.length_append]at h1;omega
       have HY':Hid ((Y++M).length=b):=by show _=_;have h1:=HY.out;have q1:=KP.1.length_eq;have q2:=KP.2.1.length_eq;have q3:=KP.2.2;rw[List.length_append,m1.length_eq,List.length_append];omega
       have HL':Hid (L=(L1++(T1++T2))++L3):=by show _=_;rw[HL.out];simp[List.append_assoc]
       have HDn':=qH<|HDn.snoc (m1.trans (KP.1.append KP.2.1)) m2 (by have:=KP.2.2;rw[List.length_append];omega);have hrow':=qH<|r2;have hgr':=qH<|grown_trans hgr3 g2;go_wp2;go_roundw;case rel=>exact⟨b,b+t,L1++(T1++T2),L3,Y++M,d3,rfl,by go_num,by omega,by omega,hbn,HT',HY',HL',HDn',KR,hrow',hgr'⟩
       case measure=>simp[intOf];omega
      ·have hbn':¬(b:Int)≤(n:Int):=by omega
       obtain⟨m,hm⟩:∃m:Nat,a+s=m:=⟨_,rfl⟩;have hmi:(a:Int)+(s:Int)=(m:Int):=by omega
       by_cases hmn:m<n
       ·have hmn':(m:Int)<(n:Int):=by omega
        obtain⟨T1,M1,L2,d2,e1,e2,p1,w1,l1,r1⟩:=HRn3.split (by have:=HT.out;omega);subst e1;subst e2;have hd2:d2.length≤s:=by have h1:=HT.out;rw[List.length_append,p1.length_eq]at h1;omega
        obtain⟨p2,w2'⟩:=r1.one (by omega) hd2;have hL:=HL.out;have hAS:=HAS.out;rw[hL]at hAS;have hA1:=(List.pairwise_append.1 hAS).2.1;have C:Hid (Calls prog 216 #[.slice (some ⟨blk,off,none⟩) n cap,Iq a,Iq m,Iq n,.func (.func g) #[] lb] wr fun e w'=>e=.returned (.tuple #[])∧Merged wr w' blk off R Y M1 d2 []):=by
         have h1:=HT.out;have h2:=HY.out;have q1:=p1.length_eq;simp only[List.length_append]at h1;refine CS Y M1 d2 [] wr a m n hgr3 (by simpa[List.append_assoc]using hrow3.out) ?_ ?_ w1 w2' ?_ (by omega) (by omega) (by simp only[List.length_append,List.length_nil];omega) HY (by omega) (by omega);·intro x hx;exact HD x (by rw[hL];simp[p1.mem_iff.1 hx])
         ·intro x hx;exact HD x (by rw[hL];simp[p2.mem_iff.1 hx])
         ·intro x hx y hy;exact(List.pairwise_append.1 hA1).2.2 x (p1.mem_iff.1 hx) y (p2.mem_iff.1 hy)
        have KE:Hid (∀M:List Int,M.Perm (M1++d2)->M.Pairwise R->Runs R t L (Y++M)):=by intro M m1 m2;have h1:=HT.out;rw[hL];refine HDn _ _ (Runs.single (m1.trans (p1.append p2)) m2 ?_);have q1:=p1.length_eq;have q2:=p2.length_eq;simp only[List.length_append]at*;omega
        clear p1 p2 l1 r1 w1 w2' hm hL hAS hA1 hd2;go_wp2_with fail;refine C.mono ?_;rintro e w2 ⟨rfl,⟨M,m1,m2,r2⟩,g2⟩;have KR:=qH<|KE M m1 m2;have hrow':Hid (IRow w2 blk off (Y++M)):=by have:=r2;show IRow _ _ _ _;simpa using this
        have hgr':=qH<|grown_trans hgr3 g2;clear m1 m2 r2 g2 C hrow3 hgr3 HT HY HL HDn HRn3 KE;go_wp2;go_roundw;case rel=>exact⟨t,Y++M,rfl,by omega,by omega,KR,hrow',hgr'⟩
        case measure=>simp[intOf];omega
       ·have hmn':¬(m:Int)<(n:Int):=by omega
        have KR:Hid (Runs R t L (Y++d')):=by show Runs R t L (Y++d');have h1:=HT.out;obtain⟨p2,w2'⟩:=HRn3.one (by omega) (by omega);rw[HL.out];exact HDn _ _ (Runs.single p2 w2' (by have:=p2.length_eq;omega))
        clear HT HY HL HDn HRn3 hm;go_wp2;go_roundw;case rel=>exact⟨t,Y++d',rfl,by omega,by omega,KR,hrow3,hgr3⟩
        case measure=>simp[intOf];omega
    ·have hsl':¬(s:Int)<(n:Int):=by omega
     have HF:=qH<|HRn2.one (by omega) (by have:=HRn2.len;have:=HN.out;omega);go_wp2;go_end0;exact⟨rfl,⟨d,HF.1,HF.2,by simpa using hrow2.out⟩,hgr2⟩
end
section
open Go.RowKit Go.Sort Go.Proofs.Tryz
theorem sortStable_any(g:Nat)(lb:Array Value)(eg:∀args w,(callFunc g args).run prog w=.ok (.enter g args) w)(cf:Int->Int->Int)(D:List Int)(R:Int->Int->Prop)(hO:Ord cf D R)(w0:World)(blk off cap:Nat)(hcmp:CmpG g lb cf D w0 blk)(L:List Int)(w:World)(n:Nat)(hw0:w0.grownBy w (some blk))(h:IRow w blk off L)(hD:∀x∈L,x∈D)(hasc:L.Pairwise (·<·))(hn:L.length=n)(hlen:n≤1099511627776):
 Calls prog 192 #[.slice (some ⟨blk,off,none⟩) n cap,.func (.func g) #[] lb] w fun e w'=>e=.returned (.tuple #[])∧Sorted w w' blk off R [] L []:=by
 have C:=qH<|
  stable_any g lb eg cf D R hO w0 blk off cap hcmp L w n hw0 h hD hasc hn hlen;clear h hO hw0 hcmp hD hasc hn;go_enter func192,ntmps192;go_wp2_with fail;refine C.mono ?_;rintro e w2 ⟨rfl,s2⟩;have S2:=qH<|s2;clear s2 C;go_wp2;go_end0;exact⟨rfl,S2⟩
theorem ins_nil(fv:Value)(w:World):
 Calls prog 215 #[.slice none 0 0,Iq 0,Iq 0,fv] w fun e w'=>e=.returned (.tuple #[])∧w'=w:=by
 go_enter func215,ntmps215;go_wp2;go_loopw[8] (fun i wr=>i=Iq 1∧wr=w) (fun i _=>0);case atStart=>exact⟨rfl,rfl⟩
 case round=>obtain⟨rfl,rfl⟩:=hrel;go_wp2;go_end0;exact⟨rfl,rfl⟩
theorem stable_nil(fv:Value)(w:World):
 Calls prog 204 #[.slice none 0 0,Iq 0,fv] w fun e w'=>e=.returned (.tuple #[])∧w'=w:=by
 go_enter func204,ntmps204;go_wp2;go_loopw[7,8] (fun i j wr=>i=Iq 0∧j=Iq 20∧wr=w) (fun i _ _=>0);case atStart=>exact⟨rfl,rfl,rfl⟩
 case round=>
  obtain⟨rfl,rfl,rfl⟩:=hrel;go_wp2_with fail;refine(ins_nil fv wr).mono ?_;rintro e w2 ⟨rfl,rfl⟩;go_wp2;go_loopw[6] (fun i wr=>i=Iq 20∧wr=w2) (fun i _=>0);case atStart=>exact⟨rfl,rfl⟩
  case round=>obtain⟨rfl,rfl⟩:=hrel;go_wp2;go_end0;exact⟨rfl,rfl⟩
theorem sortStable_nil(fv:Value)(w:World):
 Calls prog 192 #[.slice none 0 0,fv] w fun e w'=>e=.returned (.tuple #[])∧w'=w:=by go_enter func192,ntmps192;go_wp2_with fail;refine(stable_nil fv w).mono ?_;rintro e w2 ⟨rfl,rfl⟩;go_wp2;go_end0;exact⟨rfl,rfl⟩
def cmpI(x y:Int):Int:=if x<y then-1 else if y<x then 1 else 0
theorem isNaN_no(x:Int)(w:World):
 Calls prog 205 #[Iq x] w fun e w'=>e=.returned (.bool false)∧w'=w:=by go_enter func205,ntmps205;go_wp2;go_ret;exact⟨rfl,rfl⟩
theorem compare_any(x y:Int)(w:World):
 Calls prog 194 #[Iq x,Iq y] w fun e w'=>e=.returned (Iq (cmpI x y))∧w'=w:=by
 obtain⟨z,hz⟩:=nmd (cmpI x y);have HZ:=qH<|hz;rw[hz];clear hz;by_cases h1:x<y
 ·have hz1:z=-1:=by have:=HZ.out;unfold cmpI at this;rw[if_pos h1]at this;exact this.symm
  subst hz1;go_enter func194,ntmps194;go_wp2_with(refine(isNaN_no _ _).mono ?_;rintro e w2 ⟨rfl,rfl⟩);try go_wp2
  go_ret;exact⟨rfl,rfl⟩
 ·by_cases h2:y<x
  ·have hz1:z=1:=by have:=HZ.out;unfold cmpI at this;rw[if_neg h1,if_pos h2]at this;exact this.symm
   subst hz1;go_enter func194,ntmps194;go_wp2_with(refine(isNaN_no _ _).mono ?_;rintro e w2 ⟨rfl,rfl⟩);go_ret;exact⟨rfl,rfl⟩
  ·have hz1:z=0:=by have:=HZ.out;unfold cmpI at this;rw[if_neg h1,if_neg h2]at this;exact this.symm
   subst hz1;go_enter func194,ntmps194;go_wp2_with(refine(isNaN_no _ _).mono ?_;rintro e w2 ⟨rfl,rfl⟩);go_ret;exact⟨rfl,rfl⟩
end
section
open Go.RowKit Go.Sort Go.Proofs.Tryz
def gb(d:List Int):Nat->Int->List Int->List Int
 |0,_,Y=>Y
 |c+1,m,Y=>gb d c (m-min m (d[c]?.getD 0)) ((d[c]?.getD 0-min m (d[c]?.getD 0))::Y)
theorem irow_set1{W:World}{blk off:Nat}{d:List Int}(h:IRow W blk off d)(i:Nat)(y:Int)(hi:i<d.length):IRow (W.setCell ⟨blk,off+i,none⟩ (Iq y)) blk off (d.set i y):=by
 refine⟨by simpa using h.1,fun k hk=>?_⟩;rw[List.length_set]at hk;simp only[World.frozen?_setCell];refine⟨?_,(h.2 k hk).2⟩;have hc:=(h.2 k hk).1;by_cases h1:k=i;·subst h1;rw[World.cell?_setCell_same' _ _ _ (by rw[hc];rfl)];simp[hk]
 ·rw[World.cell?_setCell_other _ _ _ _ (fun e=>h1 (by injection e with e1 e2;omega)),hc,List.getElem?_set_ne (fun e=>h1 e.symm)]
theorem set_mid(X:List Int)(x y:Int)(Y:List Int):(X++[x]++Y).set X.length y=X++(y::Y):=by simp[List.append_assoc]
theorem giveBack_any(d:List Int)(blk off cap:Nat)(much:Int)(w:World)(n:Nat)(h:IRow w blk off d)(hn:d.length=n)(hlen:n≤1099511627776)(hd:∀x∈d,0≤x∧x≤1099511627776)(hm:0≤much∧much≤1099511627776):
 Calls prog 163 #[.slice (some ⟨blk,off,none⟩) n cap,Iq much] w fun e w'=>e=.returned (.tuple #[])∧IRow w' blk off (gb d n much [])∧w.grownBy w' (some blk):=by
 have HR:=qH<|h;have HN:=qH<|hn;have HD:=qH<|hd;have hm1:=hm.1;have hm2:=hm.2;clear h hn hd hm;go_enter func163,ntmps163;go_wp2;go_loopw[1,4] (fun m i wr=>∃(c:Nat) (mu iv:Int) (Y:List Int),m=Iq mu∧i=Iq iv∧iv≤(c:Int)-1∧(c:Int)-1≤iv∧c≤n∧0≤mu∧mu≤1099511627776∧Hid (gb d c mu Y=gb d n much [])∧Hid (c+Y.length=n)∧Hid (IRow wr blk off (d.take c++Y))∧Hid (w.grownBy wr (some blk))) (fun _ i _=>(intOf i+1).toNat);case atStart=>exact⟨n,much,(n:Int)-1,[],rfl,by go_num,by omega,by omega,Nat.le_refl _,hm1,hm2,by show _=_;rfl,by show _=_;rfl,by show IRow _ _ _ _;rw[List.append_nil,List.take_of_length_le (by rw[HN.out];omega)];exact HR,grown_refl _ _⟩
 case round=>
  obtain⟨c,mu,iv,Y,rfl,rfl,h1,h2,hcn,hu1,hu2,HG,HC,hrow,hgr⟩:=hrel;match c with
  |0=>
   have hneg:¬(0:Int)≤iv:=by omega
   go_wp2;go_end0;exact⟨rfl,by have:=hrow.out;have h0:=HG.out;simp only[gb]at h0;rw[<-h0];simpa using this,hgr⟩
  |c+1=>
   have hpos:(0:Int)≤iv:=by omega
   obtain rfl:iv=(c:Int):=by omega
   obtain⟨x,hx⟩:=nmd (d[c]?.getD 0);have hcd:c<d.length:=by rw[HN.out];omega
   have hxb:=HD x (by rw[<-hx];exact mem_at hcd);have hx1:=hxb.1;have hx2:=hxb.2;have hcn':(c:Int)<(n:Int):=by omega
   have htn:=(take_next d c hcd).1;rw[hx]at htn;have hr1:=hrow.out;rw[htn]at hr1;have hXl:(d.take c).length=c:=by rw[List.length_take];omega
   have hL:(d.take c++[x]++Y).length=n:=by have:=HC.out;simp only[List.length_append,List.length_take,List.length_cons,List.length_nil];omega
   have hat:(d.take c++[x]++Y)[c]?.getD 0=x:=by
    have:(d.take c++[x]++Y)[(d.take c).length]?.getD 0=x:=by simp[List.append_assoc]
    rw[hXl]at this;exact this
   have c0:wr.cell? ⟨blk,off+c,none⟩=some (Iq x):=by rw[(hr1.2 c (by omega)).1,hat]
   have f0:=(hr1.2 c (by omega)).2;obtain⟨bk,hbk⟩:=nmd (min mu x);have HNew:Hid (IRow (wr.setCell ⟨blk,off+c,none⟩ (Iq (x-bk))) blk off (d.take c++((x-bk)::Y))):=by have:=irow_set1 hr1 c (x-bk) (by omega);have e:=set_mid (d.take c) x (x-bk) Y;rw[hXl]at e;rw[e]at this;exact this
   have HG':Hid (gb d c (mu-bk) ((x-bk)::Y)=gb d n much []):=by have:=HG.out;simp only[gb]at this;rw[hx,hbk]at this;exact this
   have HC':Hid (c+((x-bk)::Y).length=n):=by show _=_;have:=HC.out;simp only[List.length_cons];omega
   have HGr:Hid (w.grownBy (wr.setCell ⟨blk,off+c,none⟩ (Iq (x-bk))) (some blk)):=grown_trans hgr (grown_set _ _ _ _);have hb1:bk≤mu:=by omega
   have hb2:bk≤x:=by omega
   have hb3:0≤bk:=by omega
   have hmin:bk=mu∧mu≤x∨bk=x∧x<mu:=by omega
   clear hx hxb htn hr1 hXl hL hat hrow hgr HG HC hbk hcd;rcases hmin with⟨rfl,hle⟩|⟨rfl,hle⟩
   ·rw[Int.sub_self]at HG';go_wp2;go_roundw;case rel=>exact⟨c,_,(c:Int)-1,_,rfl,by go_num,by omega,by omega,by omega,by omega,by omega,HG',HC',HNew,HGr⟩
    case measure=>simp[intOf]<;>omega
   ·rw[Int.sub_self]at HG' HC' HNew HGr;go_wp2;go_roundw;case rel=>exact⟨c,_,(c:Int)-1,_,rfl,by go_num,by omega,by omega,by omega,by omega,by omega,HG',HC',HNew,HGr⟩
    case measure=>simp[intOf]<;>omega
end
section
def sumL(f:Nat->Int)(l:List Nat):Int:=(l.map f).sum
theorem sumL_nil(f:Nat->Int):sumL f []=0:=rfl
theorem sumL_cons(f:Nat->Int)(j:Nat)(l:List Nat):sumL f (j::l)=f j+sumL f l:=by simp[sumL]
theorem sumL_append(f:Nat->Int)(l m:List Nat):sumL f (l++m)=sumL f l+sumL f m:=by simp[sumL]
theorem sumL_snoc(f:Nat->Int)(l:List Nat)(j:Nat):sumL f (l++[j])=sumL f l+f j:=by simp[sumL]
theorem sumL_perm{f:Nat->Int}{l m:List Nat}(h:l.Perm m):sumL f l=sumL f m:=by
 induction h with
 |nil=>rfl
 |cons x _ ih=>rw[sumL_cons,sumL_cons,ih]
 |swap x y l=>simp only[sumL_cons];omega
 |trans _ _ a b=>exact a.trans b
theorem sumL_le{f g:Nat->Int}{l:List Nat}(h:∀j∈l,f j≤g j):sumL f l≤sumL g l:=by
 induction l with
 |nil=>exact Int.le_refl _
 |cons a l ih=>have:=h a (by simp);have:=ih fun j hj=>h j (by simp[hj]);rw[sumL_cons,sumL_cons];omega
theorem sumL_congr{f g:Nat->Int}{l:List Nat}(h:∀j∈l,f j=g j):sumL f l=sumL g l:=
 Int.le_antisymm (sumL_le fun j hj=>Int.le_of_eq (h j hj)) (sumL_le fun j hj=>Int.le_of_eq (h j hj).symm)
theorem sumL_add(f g:Nat->Int)(l:List Nat):sumL (fun j=>f j+g j) l=sumL f l+sumL g l:=by
 induction l with
 |nil=>rfl
 |cons a l ih=>simp only[sumL_cons,ih];omega
theorem sumL_mul(c:Int)(f:Nat->Int)(l:List Nat):sumL (fun j=>c*f j) l=c*sumL f l:=by
 induction l with
 |nil=>simp[sumL]
 |cons a l ih=>simp only[sumL_cons,ih,Int.mul_add]
theorem sumL_nonneg{f:Nat->Int}{l:List Nat}(h:∀j∈l,0≤f j):0≤sumL f l:=by
 induction l with
 |nil=>exact Int.le_refl _
 |cons a l ih=>have:=h a (by simp);have:=ih fun j hj=>h j (by simp[hj]);rw[sumL_cons];omega
theorem sumL_bound{f:Nat->Int}{l:List Nat}{b:Int}(h:∀j∈l,f j≤b):sumL f l≤(l.length:Int)*b:=by
 induction l with
 |nil=>simp[sumL]
 |cons a l ih=>have:=h a (by simp);have:=ih fun j hj=>h j (by simp[hj]);rw[sumL_cons,List.length_cons,Int.natCast_add,Int.add_mul];omega
theorem sumL_mem{f:Nat->Int}{l:List Nat}(h:∀j∈l,0≤f j){i:Nat}(hi:i∈l):f i≤sumL f l:=by
 induction l with
 |nil=>simp at hi
 |cons a l ih=>
  have h1:=h a (by simp);have h2:0≤sumL f l:=sumL_nonneg fun j hj=>h j (by simp[hj]);rw[sumL_cons];rcases List.mem_cons.1 hi with rfl|hi;·omega
  ·have:=ih (fun j hj=>h j (by simp[hj])) hi;omega
theorem sumL_sub{f:Nat->Int}{l A:List Nat}(hl:l.Nodup)(hA:A.Nodup)(hs:∀j∈A,j∈l)(h0:∀j∈l,j∉A->f j=0):sumL f l=sumL f A:=by
 induction A generalizing l with
 |nil=>
  rw[sumL_nil];have:sumL f l=sumL (fun _=>0) l:=sumL_congr fun j hj=>h0 j hj (by simp);rw[this];clear this h0 hs hl;induction l with
  |nil=>rfl
  |cons a l ih=>rw[sumL_cons,ih];rfl
 |cons a A ih=>
  have ha:=hs a (by simp);have hp:=List.perm_cons_erase ha;rw[sumL_perm hp,sumL_cons,sumL_cons];have hna:=List.nodup_cons.1 hA;have:=ih (l:=l.erase a) (hl.erase a) hna.2 (fun j hj=>(List.mem_erase_of_ne (fun e=>hna.1 (by rw[<-e];exact hj))).2 (hs j (by simp[hj]))) (fun j hj hjA=>by
   have h1:j≠a:=fun e=>by subst e;exact(List.Nodup.not_mem_erase hl) hj
   exact h0 j (List.mem_of_mem_erase hj) (by simp[h1,hjA]));rw[this]
variable{Mn Mx Wt:Nat->Int}
theorem full_next{A B:List Nat}{i:Nat}{L W:Int}(hm:∀j,0≤Mx j-Mn j)(hA:∀j∈A,0<Wt j∧(Mx j-Mn j)*Wt i≤(Mx i-Mn i)*Wt j)(hi:0<Wt i)(hB:∀j∈B,0<Wt j)(hW:W=sumL Wt (i::B))(hle:(Mx i-Mn i)*W≤L*Wt i):
 0≤L-(Mx i-Mn i)∧∀j∈A++[i],(Mx j-Mn j)*(W-Wt i)≤(L-(Mx i-Mn i))*Wt j:=by
 have hB0:=sumL_nonneg fun j hj=>Int.le_of_lt (hB j hj);rw[sumL_cons]at hW;have hmi:=hm i;have h1:(Mx i-Mn i)*Wt i≤(Mx i-Mn i)*W:=Int.mul_le_mul_of_nonneg_left (by omega) hmi;have h2:=Int.le_of_mul_le_mul_right (Int.le_trans h1 hle) hi;have hW0:0≤W-Wt i:=by omega
 have hii:(Mx i-Mn i)*(W-Wt i)≤(L-(Mx i-Mn i))*Wt i:=by rw[Int.mul_sub (Mx i-Mn i) W (Wt i),Int.sub_mul L (Mx i-Mn i) (Wt i)];omega
 refine⟨by omega,fun j hj=>?_⟩;rcases List.mem_append.1 hj with hj|hj
 ·obtain⟨hj1,hj2⟩:=hA j hj;have e1:=Int.mul_le_mul_of_nonneg_right hj2 hW0;have e2:(Mx i-Mn i)*(W-Wt i)*Wt j≤(L-(Mx i-Mn i))*Wt i*Wt j:=Int.mul_le_mul_of_nonneg_right hii (by omega);have e3:(Mx j-Mn j)*(W-Wt i)*Wt i≤(L-(Mx i-Mn i))*Wt j*Wt i:=by rw[Int.mul_right_comm (Mx j-Mn j),Int.mul_right_comm (L-(Mx i-Mn i))];refine Int.le_trans e1 ?_;rw[Int.mul_right_comm (Mx i-Mn i)];exact e2
  exact Int.le_of_mul_le_mul_right e3 hi
 ·simp only[List.mem_singleton]at hj;subst hj;exact hii
theorem none_full{B:List Nat}{i:Nat}{L W:Int}(hi:0<Wt i)(hW:0<W)(hB:∀k∈B,0<Wt k∧(Mx i-Mn i)*Wt k≤(Mx k-Mn k)*Wt i)(hgt:L*Wt i<(Mx i-Mn i)*W):∀k∈i::B,L*Wt k<(Mx k-Mn k)*W:=by
 intro k hk;rcases List.mem_cons.1 hk with rfl|hk;·exact hgt
 ·obtain⟨h1,h2⟩:=hB k hk;have e1:=Int.mul_lt_mul_of_pos_right hgt h1;have e2:(Mx i-Mn i)*Wt k*W≤(Mx k-Mn k)*Wt i*W:=Int.mul_le_mul_of_nonneg_right h2 (by omega);have e3:L*Wt k*Wt i<(Mx k-Mn k)*W*Wt i:=by rw[Int.mul_right_comm L,Int.mul_right_comm (Mx k-Mn k)];refine Int.lt_of_lt_of_le e1 ?_;rw[Int.mul_right_comm (Mx i-Mn i)];exact e2
  exact Int.lt_of_mul_lt_mul_right e3 (by omega)
theorem missing_bd{S:List Nat}{L W:Int}(hW:W=sumL Wt S)(hpos:0<W):0≤L-sumL (fun j=>L*Wt j/W) S∧L-sumL (fun j=>L*Wt j/W) S<S.length:=by
 have e:sumL (fun j=>L*Wt j) S=W*sumL (fun j=>L*Wt j/W) S+sumL (fun j=>L*Wt j %W) S:=by rw[<-sumL_mul,<-sumL_add];exact sumL_congr fun j _=>(Int.mul_ediv_add_emod _ _).symm
 rw[sumL_mul,<-hW]at e;have f0:0≤sumL (fun j=>L*Wt j %W) S:=sumL_nonneg fun j _=>Int.emod_nonneg _ (by omega);have f1:sumL (fun j=>L*Wt j %W) S≤(S.length:Int)*(W-1):=sumL_bound fun j _=>by have:=Int.emod_lt_of_pos (L*Wt j) hpos;omega
 have hS:S≠[]:=by intro h;rw[h,sumL_nil]at hW;omega
 have hS1:(0:Int)<S.length:=by have:=List.length_pos_iff.2 hS;omega
 obtain⟨q,hq⟩:=nmd (sumL (fun j=>L*Wt j/W) S);rw[hq]at e⊢;have e2:W*(L-q)=sumL (fun j=>L*Wt j %W) S:=by rw[Int.mul_sub,Int.mul_comm W L];omega
 refine⟨?_,?_⟩;·exact Int.le_of_mul_le_mul_left (by rw[e2];simpa using f0) hpos
 ·refine Int.lt_of_mul_lt_mul_left (a:=W) ?_ (by omega);rw[e2,Int.mul_comm W];rw[Int.mul_sub,Int.mul_one]at f1;omega
structure Poured(n:Nat)(Mn Mx Wt:Nat->Int)(r:Int)(a:Nat->Int)(A S:List Nat)(L W:Int)(m:Nat):Prop where
 perm:(A++S).Perm ((List.range n).filter fun j=>decide (0<Wt j))
 left:L=r-sumL Mn (List.range n)-sumL (fun j=>Mx j-Mn j) A
 pos:0≤L
 weight:W=sumL Wt S
 full:∀j∈A,(Mx j-Mn j)*W≤L*Wt j
 open_:∀j∈S,L*Wt j<(Mx j-Mn j)*W
 miss:S≠[]->(m:Int)=L-sumL (fun j=>L*Wt j/W) S
 none_:S=[]->m=0
 sorted:S.Pairwise fun i k=>L*Wt k %W<L*Wt i %W∨(L*Wt i %W=L*Wt k %W∧i<k)
 is:∀j,j<n->a j=if j∈A then Mx j else if j∈S then Mn j+L*Wt j/W+(if j∈S.take m then 1 else 0)else Mn j
theorem Poured.facts{n:Nat}{r:Int}{a:Nat->Int}{A S:List Nat}{L W:Int}{m:Nat}(h:Poured n Mn Mx Wt r a A S L W m):
 A.Nodup∧S.Nodup∧(∀j∈A,j∉S)∧(∀j∈A,j<n∧0<Wt j)∧(∀j∈S,j<n∧0<Wt j)∧(∀j,j<n->0<Wt j->j∈A∨j∈S):=by
 have hf:((List.range n).filter fun j=>decide (0<Wt j)).Nodup:=List.nodup_range.filter _;have hn:=h.perm.nodup_iff.2 hf;rw[List.nodup_append]at hn;have hm:∀j,j∈A++S↔j<n∧0<Wt j:=fun j=>by rw[h.perm.mem_iff];simp
 refine⟨hn.1,hn.2.1,fun j hA hS=>hn.2.2 j hA j hS rfl,fun j hj=>(hm j).1 (by simp[hj]),fun j hj=>(hm j).1 (by simp[hj]),fun j h1 h2=>by simpa using(hm j).2 ⟨h1,h2⟩⟩
theorem div_lt_of{x y W:Int}(hW:0<W)(h:x<y*W):x/W+1≤y:=by have:=Int.ediv_lt_of_lt_mul hW h;omega
theorem Poured.bds{n:Nat}{r:Int}{a:Nat->Int}{A S:List Nat}{L W:Int}{m:Nat}(h:Poured n Mn Mx Wt r a A S L W m)(hw:∀j,Mn j≤Mx j)(hp:∀j,0≤Wt j):
 ∀j,j<n->Mn j≤a j∧a j≤Mx j∧(Wt j=0->a j=Mn j):=by
 obtain⟨hA,hS,hd,fA,fS,hall⟩:=h.facts;intro j hj;rw[h.is j hj];have:=hw j;have:=hp j;by_cases h1:j∈A;·rw[if_pos h1];have:=(fA j h1).2;exact⟨by omega,by omega,fun e=>by omega⟩
 ·rw[if_neg h1];by_cases h2:j∈S
  ·rw[if_pos h2];have hpos:0<W:=by rw[h.weight];exact Int.lt_of_lt_of_le (fS j h2).2 (sumL_mem (fun k _=>hp k) h2)
   have:=div_lt_of hpos (h.open_ j h2);have h0:0≤L*Wt j/W:=Int.ediv_nonneg (Int.mul_nonneg h.pos (hp j)) (by omega);have:=(fS j h2).2;split<;>exact⟨by omega,by omega,fun e=>by omega⟩
  ·rw[if_neg h2];exact⟨by omega,by omega,fun _=>rfl⟩
theorem take_sum(S:List Nat)(hS:S.Nodup)(m:Nat)(hm:m≤S.length):sumL (fun j=>if j∈S.take m then 1 else 0) S=m:=by
 have e:sumL (fun j=>if j∈S.take m then(1:Int)else 0) S=sumL (fun j=>if j∈S.take m then(1:Int)else 0) (S.take m):=
  sumL_sub hS (hS.sublist (List.take_sublist _ _)) (fun j hj=>List.mem_of_mem_take hj) (fun j _ hj=>if_neg hj);rw[e,sumL_congr (g:=fun _=>1) (fun j hj=>if_pos hj)];have:∀l:List Nat,sumL (fun _=>(1:Int)) l=l.length:=by
  intro l;induction l with
  |nil=>rfl
  |cons a l ih=>rw[sumL_cons,ih,List.length_cons];omega
 rw[this,List.length_take];omega
theorem Poured.sum{n:Nat}{r:Int}{a:Nat->Int}{A S:List Nat}{L W:Int}{m:Nat}(h:Poured n Mn Mx Wt r a A S L W m)(hp:∀j,0≤Wt j):
 (S≠[]->sumL a (List.range n)=r)∧(S=[]->sumL a (List.range n)=sumL (fun j=>if 0<Wt j then Mx j else Mn j) (List.range n)∧L=r-sumL a (List.range n)):=by
 obtain⟨hA,hS,hd,fA,fS,hall⟩:=h.facts;have hr:(List.range n).Nodup:=List.nodup_range;have e0:sumL a (List.range n)=sumL Mn (List.range n)+sumL (fun j=>(if j∈A then Mx j-Mn j else 0)+(if j∈S then L*Wt j/W+(if j∈S.take m then 1 else 0)else 0)) (List.range n):=by
  rw[<-sumL_add];refine sumL_congr fun j hj=>?_;rw[h.is j (by simpa using hj)];by_cases h1:j∈A;·have:=hd j h1;simp only[if_pos h1,if_neg this];omega
  ·by_cases h2:j∈S;·simp only[if_neg h1,if_pos h2];omega
   ·simp only[if_neg h1,if_neg h2];omega
 have eA:sumL (fun j=>if j∈A then Mx j-Mn j else 0) (List.range n)=sumL (fun j=>Mx j-Mn j) A:=by rw[sumL_sub (A:=A) hr hA (fun j hj=>by simpa using(fA j hj).1) (fun j _ hj=>if_neg hj)];exact sumL_congr fun j hj=>if_pos hj
 have eS:sumL (fun j=>if j∈S then L*Wt j/W+(if j∈S.take m then 1 else 0)else 0) (List.range n)=sumL (fun j=>L*Wt j/W) S+sumL (fun j=>if j∈S.take m then 1 else 0) S:=by rw[sumL_sub (A:=S) hr hS (fun j hj=>by simpa using(fS j hj).1) (fun j _ hj=>if_neg hj),<-sumL_add];exact sumL_congr fun j hj=>if_pos hj
 rw[sumL_add,eA,eS]at e0;have hl:=h.left;refine⟨fun hne=>?_,fun he=>?_⟩
 ·have hpos:0<W:=by obtain⟨x,hx⟩:=List.exists_mem_of_ne_nil S hne;rw[h.weight];exact Int.lt_of_lt_of_le (fS x hx).2 (sumL_mem (fun k _=>hp k) hx)
  have hm:=h.miss hne;have hb:=missing_bd (L:=L) h.weight hpos;rw[<-hm]at hb;rw[take_sum S hS m (by omega)]at e0;omega
 ·subst he;simp only[sumL_nil]at e0;refine⟨?_,by omega⟩;refine sumL_congr fun j hj=>?_;rw[h.is j (by simpa using hj)];by_cases h1:j∈A;·rw[if_pos h1,if_pos (fA j h1).2]
  ·rw[if_neg h1,if_neg (by simp),if_neg];intro h2;rcases hall j (by simpa using hj) h2 with h3|h3;·exact h1 h3
   ·simp at h3
theorem Poured.tiles{n:Nat}{r:Int}{a:Nat->Int}{A S:List Nat}{L W:Int}{m:Nat}(h:Poured n Mn Mx Wt r a A S L W m)(hw:∀j,Mn j≤Mx j)(hp:∀j,0≤Wt j):
 sumL a (List.range n)=min r (sumL (fun j=>if 0<Wt j then Mx j else Mn j) (List.range n)):=by
 have hs:=h.sum hp;have hb:=h.bds hw hp;by_cases he:S=[];·have:=hs.2 he;have:=h.pos;omega
 ·have h1:=hs.1 he;have:sumL a (List.range n)≤sumL (fun j=>if 0<Wt j then Mx j else Mn j) (List.range n):=sumL_le fun j hj=>by
   have:=hb j (by simpa using hj);have:=hp j;split;·omega
   ·have:=this;have h3:=(hb j (by simpa using hj)).2.2 (by omega);omega
  omega
theorem gb_facts(d:List Int)(hd:∀i,i<d.length->0≤d[i]?.getD 0):∀(c:Nat) (m:Int) (Y:List Int),c≤d.length->0≤m->m≤(d.take c).sum->
 ∃X,gb d c m Y=X++Y∧X.length=c∧(∀i,i<c->0≤X[i]?.getD 0∧X[i]?.getD 0≤d[i]?.getD 0)∧X.sum=(d.take c).sum-m∧(∀i k,i<k->k<c->X[i]?.getD 0<d[i]?.getD 0->X[k]?.getD 0=0)∧(m=0->∀i,i<c->X[i]?.getD 0=d[i]?.getD 0)
 |0,m,Y,_,h0,hm=>⟨[],rfl,rfl,fun i hi=>by omega,by simp at hm⊢;omega,fun i k _ hk=>by omega,fun _ i hi=>by omega⟩
 |c+1,m,Y,hc,h0,hm=>by
  have hx:=hd c (by omega);have ht:(d.take (c+1)).sum=(d.take c).sum+d[c]?.getD 0:=by rw[List.take_succ_eq_append_getElem (by omega),List.getElem?_eq_getElem (by omega),List.sum_append];simp only[List.sum_cons,List.sum_nil,Option.getD_some];omega
  have hs0:0≤(d.take c).sum:=by
   have:∀k,k≤d.length->0≤(d.take k).sum:=by
    intro k hk;induction k with
    |zero=>simp
    |succ k ih=>have h1:=ih (by omega);have h2:=hd k (by omega);rw[List.take_succ_eq_append_getElem (by omega)];rw[List.getElem?_eq_getElem (by omega)]at h2;rw[List.sum_append];simp only[List.sum_cons,List.sum_nil,Option.getD_some]at h2⊢;omega
   exact this c (by omega)
  obtain⟨x,hxe⟩:=nmd (d[c]?.getD 0);rw[hxe]at hx ht;obtain⟨X,e,hl,hb,hs,hk,hz⟩:=gb_facts d hd c (m-min m x) ((x-min m x)::Y) (by omega) (by omega) (by omega);refine⟨X++[x-min m x],by rw[gb,hxe,e];simp,by simp[hl],?_,?_,?_,?_⟩
  ·intro i hi;by_cases h1:i<c;·rw[List.getElem?_append_left (by omega)];exact hb i h1
   ·obtain rfl:i=c:=by omega
    rw[List.getElem?_append_right (by omega),hl,Nat.sub_self,hxe];simp;omega
  ·rw[List.sum_append,hs,ht];simp;omega
  ·intro i k hik hkc hlt;rw[List.getElem?_append_left (by omega)]at hlt;by_cases h1:k<c;·rw[List.getElem?_append_left (by omega)];exact hk i k hik h1 hlt
   ·obtain rfl:k=c:=by omega
    rw[List.getElem?_append_right (by omega),hl,Nat.sub_self];simp only[List.getElem?_cons_zero,Option.getD_some];by_cases h2:m≤x;·have:=hz (by omega) i (by omega);omega
    ·omega
  ·intro h1 i hi;by_cases h2:i<c;·rw[List.getElem?_append_left (by omega)];exact hz (by omega) i h2
   ·obtain rfl:i=c:=by omega
    rw[List.getElem?_append_right (by omega),hl,Nat.sub_self,hxe];simp;omega
end
section
open Go.RowKit Go.Sort Go.Proofs.Tryz
theorem frac_any(F:List Int)(bx fb fo fc:Nat)(W:World)(hb:W.cell? ⟨bx,0,none⟩=some (.slice (some ⟨fb,fo,none⟩) F.length fc))(hF:∀j,j<F.length->W.cell? ⟨fb,fo+j,none⟩=some (Iq (F[j]?.getD 0)))(i k:Nat)(hi:i<F.length)(hk:k<F.length)(hlen:F.length≤1099511627776):
 Calls prog 196 #[Iq i,Iq k,Pq bx] W fun e W'=>e=.returned (Iq (cmpI (F[k]?.getD 0) (F[i]?.getD 0)))∧∃q os,W'=grow (W.drewN q) os:=by
 obtain⟨n,hn⟩:=nmd F.length;obtain⟨x,hx⟩:=nmd (F[i]?.getD 0);obtain⟨y,hy⟩:=nmd (F[k]?.getD 0);have c0:W.cell? ⟨fb,fo+i,none⟩=some (Iq x):=by rw[hF i hi,hx]
 have c1:W.cell? ⟨fb,fo+k,none⟩=some (Iq y):=by rw[hF k hk,hy]
 have hmx:prog.follows .mixedOrders=true:=by kernel_rfl
 rw[hn]at hb hi hk hlen;rw[hx,hy];have hi':(i:Int)<(n:Int):=by omega
 have hk':(k:Int)<(n:Int):=by omega
 obtain⟨z,hz⟩:=nmd (cmpI y x);have HC:=qH<|fun m=>by have:=compare_any y x (W.drewN m);rw[hz]at this;exact this
 rw[hz];clear hF hn hx hy hz;go_enter func196,ntmps196;go_wp2_with fail;go_quiet(first|(go_at_call 194;exact(HC _).mono (fun e w' h=>⟨h.1,_,h.2⟩)));go_wp2;go_ret;exact⟨rfl,_,#[],(grow_empty _).symm⟩
end
section
open Go.RowKit Go.Sort Go.Proofs.Tryz
theorem two_grow(W:World)(o1 o2:Obj):∃q os,((W.alloc o1).alloc o2).drew=grow (W.drewN q) os:=
 ⟨1,#[o1]++#[o2],by rw[alloc_eq_grow,alloc_eq_grow,grow_grow];rfl⟩
theorem fill_any(n bx wb wo wc:Nat)(W:World)(hb:W.cell? ⟨bx,0,none⟩=some (.slice (some ⟨wb,wo,none⟩) n wc))(i k:Nat)(a1 a2 a3 b1 b2 b3:Int)
 (ca1:W.cell? ⟨wb,wo+i*3,none⟩=some (Iq a1)) (ca2:W.cell? ⟨wb,wo+i*3+1,none⟩=some (Iq a2)) (ca3:W.cell? ⟨wb,wo+i*3+2,none⟩=some (Iq a3))
 (cb1:W.cell? ⟨wb,wo+k*3,none⟩=some (Iq b1)) (cb2:W.cell? ⟨wb,wo+k*3+1,none⟩=some (Iq b2)) (cb3:W.cell? ⟨wb,wo+k*3+2,none⟩=some (Iq b3))
 (ha:0≤a2-a1∧a2-a1≤1073741824∧0≤a3∧a3≤1073741824) (hb':0≤b2-b1∧b2-b1≤1073741824∧0≤b3∧b3≤1073741824) (hi:i<n) (hk:k<n) (hlen:n≤1099511627776) (hbx:bx<W.heap.size) (hwb:wb<W.heap.size):
 Calls prog 193 #[Iq i,Iq k,Pq bx] W fun e W'=>e=.returned (Iq (cmpI ((a2-a1)*b3) ((b2-b1)*a3)))∧∃q os,W'=grow (W.drewN q) os:=by
 have hmx:prog.follows .mixedOrders=true:=by kernel_rfl
 have hi':(i:Int)<(n:Int):=by omega
 have hk':(k:Int)<(n:Int):=by omega
 obtain⟨da,hda⟩:=nmd (a2-a1);obtain⟨db,hdb⟩:=nmd (b2-b1);rw[hda]at ha⊢;rw[hdb]at hb'⊢;obtain⟨p,hp⟩:=nmd (da*b3);obtain⟨q,hq⟩:=nmd (db*a3);have hpb:0≤p∧p≤1152921504606846976:=by rw[<-hp];refine⟨Int.mul_nonneg ha.1 hb'.2.2.1,?_⟩;exact Int.le_trans (Int.mul_le_mul ha.2.1 hb'.2.2.2 hb'.2.2.1 (by omega)) (by decide)
 have hqb:0≤q∧q≤1152921504606846976:=by rw[<-hq];refine⟨Int.mul_nonneg hb'.1 ha.2.2.1,?_⟩;exact Int.le_trans (Int.mul_le_mul hb'.2.1 ha.2.2.2 ha.2.2.1 (by omega)) (by decide)
 have w1:IntKind.i64.wrap da=da:=IntWalk.i64_in _ ⟨by omega,by omega⟩;have w2:IntKind.i64.wrap db=db:=IntWalk.i64_in _ ⟨by omega,by omega⟩;have w3:IntKind.i64.wrap p=p:=IntWalk.i64_in _ ⟨by omega,by omega⟩;have w4:IntKind.i64.wrap q=q:=IntWalk.i64_in _ ⟨by omega,by omega⟩;obtain⟨z,hz⟩:=nmd (cmpI p q);have HC:=qH<|fun w'=>by have:=compare_any p q w';rw[hz]at this;exact this
 rw[hp,hq,hz];clear hz hpb hqb ha hb';go_enter func193,ntmps193;go_wp2_with fail;go_big_region;all_goals(go_wp2_with(go_at_call 194;refine(HC _).mono ?_;rintro e w5 ⟨rfl,rfl⟩))
 all_goals go_ret
 all_goals exact⟨rfl,two_grow _ _ _⟩
end
section
theorem cmpI_lt(x y:Int):cmpI x y<0↔x<y:=by
 unfold cmpI;by_cases h1:x<y;·simp[h1]
 ·by_cases h2:y<x<;>simp[h1,h2]
theorem cmpI_bd(x y:Int):-1≤cmpI x y∧cmpI x y≤1:=by
 unfold cmpI;by_cases h1:x<y;·simp[h1]
 ·by_cases h2:y<x<;>simp[h1,h2]
def RFrac(F:Int->Int)(i k:Int):Prop:=F k<F i∨(F i=F k∧i<k)
theorem ord_frac(F:Int->Int)(D:List Int):Ord (fun i k=>cmpI (F k) (F i)) D (RFrac F)where
 lt:=fun x _ y _ h=>Or.inl ((cmpI_lt _ _).1 h)
 ge:=fun x _ y _ hxy h=>by
  have h1:¬F x<F y:=fun h2=>h ((cmpI_lt _ _).2 h2);by_cases e:F x=F y;·exact Or.inr ⟨e,hxy⟩
  ·exact Or.inl (by omega)
 trans:=fun x _ y _ z _ h1 h2=>by unfold RFrac at*;omega
 bd:=fun x _ y _=>cmpI_bd _ _
def RFill(M V:Int->Int)(i k:Int):Prop:=M i*V k<M k*V i∨(M i*V k=M k*V i∧i<k)
theorem cross_le{a b c u v w:Int}(hu:0<u)(hv:0<v)(hw:0<w)(h1:a*v≤b*u)(h2:b*w≤c*v):a*w≤c*u:=by
 have e1:a*v*w≤b*u*w:=Int.mul_le_mul_of_nonneg_right h1 (by omega);have e2:b*w*u≤c*v*u:=Int.mul_le_mul_of_nonneg_right h2 (by omega);have e3:a*w*v≤c*u*v:=by rw[Int.mul_right_comm a w v,Int.mul_right_comm c u v];refine Int.le_trans e1 ?_;rw[Int.mul_right_comm b u w];exact e2
 exact Int.le_of_mul_le_mul_right e3 hv
theorem cross_lt{a b c u v w:Int}(hu:0<u)(hv:0<v)(hw:0<w)(h1:a*v≤b*u)(h2:b*w≤c*v)(hs:a*v<b*u∨b*w<c*v):a*w<c*u:=by
 have e1:a*v*w≤b*u*w:=Int.mul_le_mul_of_nonneg_right h1 (by omega);have e2:b*w*u≤c*v*u:=Int.mul_le_mul_of_nonneg_right h2 (by omega);have e3:a*w*v<c*u*v:=by
  rw[Int.mul_right_comm a w v,Int.mul_right_comm c u v];rcases hs with hs|hs;·refine Int.lt_of_lt_of_le (Int.mul_lt_mul_of_pos_right hs hw) ?_;rw[Int.mul_right_comm b u w];exact e2
  ·refine Int.lt_of_le_of_lt e1 ?_;rw[Int.mul_right_comm b u w];exact Int.mul_lt_mul_of_pos_right hs hu
 exact Int.lt_of_mul_lt_mul_right e3 (by omega)
theorem ord_fill(M V:Int->Int)(D:List Int)(hV:∀i∈D,0<V i):Ord (fun i k=>cmpI (M i*V k) (M k*V i)) D (RFill M V)where
 lt:=fun x _ y _ h=>Or.inl ((cmpI_lt _ _).1 h)
 ge:=fun x _ y _ hxy h=>by
  have h1:¬M y*V x<M x*V y:=fun h2=>h ((cmpI_lt _ _).2 h2);by_cases e:M x*V y=M y*V x;·exact Or.inr ⟨e,hxy⟩
  ·exact Or.inl (by omega)
 trans:=fun x hx y hy z hz h1 h2=>by
  have l1:M x*V y≤M y*V x:=by rcases h1 with h|⟨h,_⟩<;>omega
  have l2:M y*V z≤M z*V y:=by rcases h2 with h|⟨h,_⟩<;>omega
  by_cases hs:M x*V y<M y*V x∨M y*V z<M z*V y;·exact Or.inl (cross_lt (hV x hx) (hV y hy) (hV z hz) l1 l2 hs)
  ·have a1:¬M x*V y<M y*V x:=fun h=>hs (Or.inl h);have a2:¬M y*V z<M z*V y:=fun h=>hs (Or.inr h);have b1:x<y:=by rcases h1 with h|⟨_,h⟩;exact(a1 h).elim;exact h
   have b2:y<z:=by rcases h2 with h|⟨_,h⟩;exact(a2 h).elim;exact h
   have c1:=cross_le (hV x hx) (hV y hy) (hV z hz) l1 l2;by_cases e:M x*V z=M z*V x;·exact Or.inr ⟨e,by omega⟩
   ·exact Or.inl (by omega)
 bd:=fun x _ y _=>cmpI_bd _ _
end
section
open Go.RowKit Go.Sort
theorem cmpG_frac(F:List Int)(bx fb fo fc blk:Nat)(w0:World)(hb:w0.cell? ⟨bx,0,none⟩=some (.slice (some ⟨fb,fo,none⟩) F.length fc))(hF:∀j,j<F.length->w0.cell? ⟨fb,fo+j,none⟩=some (Iq (F[j]?.getD 0)))(D:List Int)(hD:∀x∈D,∃j:Nat,x=j∧j<F.length)(hlen:F.length≤1099511627776)(h1:bx≠blk)(h2:fb≠blk):
 CmpG 196 #[Pq bx] (fun i k=>cmpI (F[k.toNat]?.getD 0) (F[i.toNat]?.getD 0)) D w0 blk:=by intro W hW x hx y hy;obtain⟨i,rfl,hi⟩:=hD x hx;obtain⟨k,rfl,hk⟩:=hD y hy;exact frac_any F bx fb fo fc W (hW.cell hb (by simpa using h1)) (fun j hj=>hW.cell (hF j hj) (by simpa using h2)) i k hi hk hlen
theorem cmpG_fill(n bx wb wo wc blk:Nat)(Mn Mx Wt:Nat->Int)(w0:World)(hb:w0.cell? ⟨bx,0,none⟩=some (.slice (some ⟨wb,wo,none⟩) n wc))
 (hW:∀j,j<n->w0.cell? ⟨wb,wo+j*3,none⟩=some (Iq (Mn j))∧w0.cell? ⟨wb,wo+j*3+1,none⟩=some (Iq (Mx j))∧w0.cell? ⟨wb,wo+j*3+2,none⟩=some (Iq (Wt j)))
 (hR:∀j,j<n->0≤Mx j-Mn j∧Mx j-Mn j≤1073741824∧0≤Wt j∧Wt j≤1073741824) (D:List Int) (hD:∀x∈D,∃j:Nat,x=j∧j<n) (hlen:n≤1099511627776) (h1:bx≠blk) (h2:wb≠blk) (s1:bx<w0.heap.size) (s2:wb<w0.heap.size):
 CmpG 193 #[Pq bx] (fun i k=>cmpI ((Mx i.toNat-Mn i.toNat)*Wt k.toNat) ((Mx k.toNat-Mn k.toNat)*Wt i.toNat)) D w0 blk:=by intro W hg x hx y hy;obtain⟨i,rfl,hi⟩:=hD x hx;obtain⟨k,rfl,hk⟩:=hD y hy;exact fill_any n bx wb wo wc W (hg.cell hb (by simpa using h1)) i k (Mn i) (Mx i) (Wt i) (Mn k) (Mx k) (Wt k) (hg.cell (hW i hi).1 (by simpa using h2)) (hg.cell (hW i hi).2.1 (by simpa using h2)) (hg.cell (hW i hi).2.2 (by simpa using h2)) (hg.cell (hW k hk).1 (by simpa using h2)) (hg.cell (hW k hk).2.1 (by simpa using h2)) (hg.cell (hW k hk).2.2 (by simpa using h2)) (hR i hi) (hR k hk) hi hk hlen (Nat.lt_of_lt_of_le s1 hg.size) (Nat.lt_of_lt_of_le s2 hg.size)
end
end Go.Proofs.YtmbefonnkkhfgaaGreatDoor
