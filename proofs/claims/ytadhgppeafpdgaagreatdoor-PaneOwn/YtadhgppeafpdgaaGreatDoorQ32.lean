import Derived.Test.YtadhgppeafpdgaaGreatDoorQ29
import Derived.Laws.EntriesVeiled
import Derived.Laws.CopyOwn
import Derived.Test.YtadhgppeafpdgaaGreatDoorQ26
set_option linter.all false
set_option maxRecDepth 100000
set_option maxHeartbeats 16000000
namespace Go.Proofs.YtadhgppeafpdgaaGreatDoor
open Go.RowKit Go.Sort
def Si:St->Prop
 |.out=>True
 |.esc=>True
 |.amid h=>h.size<=3
 |.wth l a=>(0<=a/\a<=16)/\∀j,j<17->0<=l j/\l j<=999999
def stepT(s:Tm)(b:UInt8):St->Tm×St
 |.out=>jk s b
 |.esc=>(s,if(b.toNat:Int)=91 then .wth (fun _=>0) 0 else .out)
 |.amid h=>LR s h b
 |.wth l a=>jH s l a.toNat b.toNat
def runT:Tm×St->List UInt8->Tm×St
 |p,[]=>p
 |p,b::r=>runT (stepT p.1 b p.2) r
theorem vj(p:Tm×St)(l:List UInt8)(b:UInt8):runT p (l++[b])=stepT (runT p l).1 b (runT p l).2:=by
 induction l generalizing p with
 |nil=>rfl
 |cons a l ih=>exact ih _
theorem jt(p:Tm×St)(l m:List UInt8):runT p (l++m)=runT (runT p l) m:=by
 induction l generalizing p with
 |nil=>rfl
 |cons a l ih=>exact ih _
theorem wP{l:List UInt8}(h:¬full l):l.length<=3:=by
 by_cases hl:l=[];·subst hl;decide
 ·have hn:¬(gW (aQ l 0)<=l.length):=fun q=>h ⟨hl,.inr (.inr (.inl q))⟩;have:gW (aQ l 0)<=4:=by unfold gW;split<;>(try split)<;>omega
  omega
theorem V5{s:Tm}(hi:Ti s)(t:ByteArray):Ti (tF s t).1/\Si (tF s t).2:=by
 unfold tF;split;·exact⟨hi.pr _,trivial⟩
 ·rename_i hn;exact⟨hi,by have:=wP hn;rw[jV]at this;exact this⟩
theorem PY{s:Tm}(hi:Ti s)(b:UInt8):Ti (jk s b).1/\Si (jk s b).2:=by
 unfold jk;split;·exact⟨hi.clr,trivial⟩
 ·split;·exact⟨hi.clr,trivial⟩
  ·exact V5 hi _
theorem Ti.obey{s:Tm}(h:Ti s)(hW:1<=s.W)(hH:1<=s.H)(b:Int)(l:Nat->Int)(a:Int):Ti (ff s b l a):=by
 unfold ff;split
 ·refine⟨?_,?_,?_,?_,h.m0,h.m1,h.ts⟩;·show 0<=min (max (l 1) 1) (s.W:Int)-1;omega
  ·show min (max (l 1) 1) (s.W:Int)-1<=(s.W:Int);omega
  ·show 0<=min (max (l 0) 1) (s.H:Int)-1;omega
  ·show min (max (l 0) 1) (s.H:Int)-1<(s.H:Int);omega
 ·split
  ·split;·exact⟨h.x0,h.x1,h.y0,h.y1,h.m0,h.m1,h.ts⟩
   ·exact h
  ·split;·exact⟨h.x0,h.x1,h.y0,h.y1,h.m0,h.m1,h.ts⟩
   ·exact h
theorem step_ok{s:Tm}{st:St}(hi:Ti s)(hs:Si st)(hW:1<=s.W)(hH:1<=s.H)(b:UInt8):Ti (stepT s b st).1/\Si (stepT s b st).2:=by
 cases st with
 |out=>exact PY hi b
 |esc=>
  refine⟨hi,?_⟩;show Si (if(b.toNat:Int)=91 then .wth (fun _=>0) 0 else .out);split;·exact⟨by decide,fun j _=>⟨by show(0:Int)<=0;decide,by show(0:Int)<=999999;decide⟩⟩
  ·exact trivial
 |amid h=>
  show Ti (LR s h b).1/\Si (LR s h b).2;unfold LR;split;·exact PY (hi.prs _) b
  ·exact V5 hi _
 |wth l a=>
  obtain⟨⟨h0,h1⟩,h2⟩:=hs;show Ti (jH s l a.toNat b.toNat).1/\Si (jH s l a.toNat b.toNat).2;unfold jH;split
  ·rename_i hd;refine⟨hi,⟨by omega,by omega⟩,fun j hj=>?_⟩;show 0<=fZ l a.toNat _ j/\fZ l a.toNat _ j<=999999;unfold fZ;split;·have:=h2 a.toNat (by omega);constructor<;>omega
   ·exact h2 j hj
  ·split;·exact⟨hi,⟨by omega,by omega⟩,h2⟩
   ·split;·exact⟨hi,⟨by omega,by omega⟩,h2⟩
    ·split;·exact⟨hi.obey hW hH _ _ _,trivial⟩
     ·exact⟨hi,trivial⟩
section
variable{T K M cap:Nat}
theorem Nx.set{w:World}{v v':Value}{st:St}(h:Nx w T M v st)(o:Nat):Nx (w.setCell (aq T o) v') T M v st:=by
 cases st with
 |out=>exact h
 |esc=>exact h
 |amid hh=>obtain⟨k,h1,h2,h3,h4⟩:=h;exact⟨k,h1,h2,h3,(bv w (aq T o) v' k h2).trans h4⟩
 |wth l a=>obtain⟨k,h1,h2,h3,h4⟩:=h;exact⟨k,h1,h2,h3,(bv w (aq T o) v' k h2).trans h4⟩
theorem Nx.gr{w w':World}{v:Value}{st:St}(h:Nx w T M v st)(g:Gr w w'):Nx w' T M v st:=by
 cases st with
 |out=>exact h
 |esc=>exact h
 |amid hh=>obtain⟨k,h1,h2,h3,h4⟩:=h;exact⟨k,h1,h2,h3,(g.block (az.1 h4).1).trans h4⟩
 |wth l a=>obtain⟨k,h1,h2,h3,h4⟩:=h;exact⟨k,h1,h2,h3,h4.gr g⟩
theorem PB{s:Tm}{nv:Value}{st:St}(w:World)(h:TM w T K M cap s nv)(hn:Nx w T M nv st)(hi:Ti s)(hs:Si st)(ht:aL w)(hU:Aj w)(su:_V T M)(bt:UInt8):
 ∃f Ba,nv=uh f Ba/\(∀args w,(callFunc f args).run Tryz.prog w=.ok (.enter f args) w)/\Calls Tryz.prog f (#[.pointer (some (aq T 0)),.int .u8 (bt.toNat:Int)]++Ba) w fun e w'=>gQ w w' e T K M cap (stepT s bt st).1 nv (stepT s bt st).2:=by
 have hb:(bt.toNat:Int)<=255:=by have:=UInt8.toNat_lt bt;omega
 cases st with
 |out=>obtain rfl:=hn;exact⟨_,#[],rfl,enters_of Tryz.func17 (by kernel_rfl) rfl,rE w h hi ht hU bt⟩
 |esc=>obtain rfl:=hn;exact⟨_,#[],rfl,enters_of Tryz.func32 (by kernel_rfl) rfl,Bu w h (bt.toNat:Int)⟩
 |amid hh=>obtain⟨k,rfl,h2,h3,h4⟩:=hn;exact⟨_,_,rfl,enters_of Tryz.func52 (by kernel_rfl) rfl,JE w h hi ht hU bt hh hs su k h4⟩
 |wth l a=>obtain⟨k,rfl,h2,h3,h4⟩:=hn;obtain⟨a,rfl⟩:∃a':Nat,a=(a':Int):=⟨a.toNat,by have:=hs.1.1;omega⟩;refine⟨_,_,rfl,enters_of Tryz.func80 (by kernel_rfl) rfl,?_⟩;exact DX w h (bt.toNat:Int) (by omega) l a k (by have:=hs.1.2;omega) hs.2 h4
theorem Nx.form{w:World}{v:Value}{st:St}(h:Nx w T M v st):∃f c,v=.func (.func f) #[] c:=by
 cases st with
 |out=>exact⟨_,_,h⟩
 |esc=>exact⟨_,_,h⟩
 |amid hh=>obtain⟨k,h1,_⟩:=h;exact⟨_,_,h1⟩
 |wth l a=>obtain⟨k,h1,_⟩:=h;exact⟨_,_,h1⟩
def V0(w w':World)(e:Ending)(T K M cap:Nat)(p:Tm×St):Prop:=e=Rw (.tuple #[])/\(∃wQ,TM w' T K M cap p.1 wQ/\Nx w' T M wQ p.2)/\Ti p.1/\Si p.2/\C2 T M w w'
theorem FC(x:ByteArray)(hx:x.size<=9223372036854775807){s:Tm}{nv:Value}{st:St}(w:World)(h:TM w T K M cap s nv)(hn:Nx w T M nv st)(hi:Ti s)(hs:Si st)(ht:aL w)(hU:Aj w)(su:_V T M):
 Calls Tryz.prog 12 #[.pointer (some (aq T 0)),.string x] w fun e w'=>V0 w w' e T K M cap (runT (s,st) x.data.toList):=by
 have HT:Hid (aL w):=ht;have HU:Hid (Aj w):=hU;have H0:Hid (TM w T K M cap s nv/\Nx w T M nv st/\Ti s/\Si st):=⟨h,hn,hi,hs⟩;clear h hn hi hs ht hU;go_enter Tryz.func12,Tryz.ntmps12;go_wp2;go_loopw[7] (fun iv wr=>∃i:Nat,i<=x.size/\iv=.int .i64 (i:Int)/\Hid (∃wQ,TM wr T K M cap (runT (s,st) (x.data.toList.take i)).1 wQ/\Nx wr T M wQ (runT (s,st) (x.data.toList.take i)).2/\Ti (runT (s,st) (x.data.toList.take i)).1/\Si (runT (s,st) (x.data.toList.take i)).2/\C2 T M w wr)) (fun iv _=>x.size-(intOf iv).toNat);case atStart=>exact⟨0,bm _,rfl,nv,H0.out.1,H0.out.2.1,H0.out.2.2.1,H0.out.2.2.2,C2.refl _ _ _⟩
 case round=>
  obtain⟨i,Oz,rfl,HJ⟩:=hrel;by_cases hlt:i<x.size
  ·have aR:(i:Int)<(x.size:Int):=by omega
   obtain⟨nw,h1,h2,h3,h4,h5⟩:=HJ.out;obtain⟨bt,Ts⟩:∃b,x[i]'hlt=b:=⟨_,rfl⟩;obtain⟨p,hp⟩:∃p,runT (s,st) (x.data.toList.take i)=p:=⟨_,rfl⟩;have HP:Hid (runT (s,st) (x.data.toList.take (i+1))=stepT p.1 bt p.2):=by
    show _=_;have e:x.data.toList[i]?=some bt:=by rw[D8,<-Ts];exact D7 hlt
    rw[D',e,<-hp,<-vj];rfl
   rw[hp]at h1 h2 h3 h4;have h5d:C2 T M w wr.drew:=h5.trans (C2.gr (Gr.refl _).drew);obtain⟨f,Ba,rfl,ef,CL⟩:=PB wr.drew (h1.gr (Gr.refl _).drew) (h2.gr (Gr.refl _).drew) h3 h4 (HT.out.c2 h5d su) (HU.out.c2 h5d su) su bt;have CLH:Hid (Calls Tryz.prog f (#[.pointer (some (aq T 0)),.int .u8 (bt.toNat:Int)]++Ba) wr.drew fun e w'=>gQ wr.drew w' e T K M cap (stepT p.1 bt p.2).1 (uh f Ba) (stepT p.1 bt p.2).2):=CL;have SO:Hid (Ti (stepT p.1 bt p.2).1/\Si (stepT p.1 bt p.2).2):=step_ok h3 h4 h1.hW.1 h1.hH.1 bt;have HC:Hid (C2 T M w wr.drew):=h5d;have c11:wr.cell? (aq T 11)=some (.func (.func f) #[] Ba):=h1.at rfl;clear h1 h2 h3 h4 h5 h5d CL hp HJ;go_wp2_with fail;go_region_with(refine ai CLH.out ?_;rintro e1 w1 ⟨v1,rfl,h1,n1,g1⟩;obtain⟨f2,tP,rfl⟩:=n1.form;have H1:Hid (TM w1 T K M cap (stepT p.1 bt p.2).1 (uh f Ba)):=h1;have N1:Hid (Nx w1 T M (.func (.func f2) #[] tP) (stepT p.1 bt p.2).2):=n1;have C1:Hid (C2 T M w w1):=HC.out.trans g1;have f1:=h1.fz;have WE:w1.cell? (aq T 11)=some (.func (.func f) #[] Ba):=h1.at rfl;clear h1 n1 g1);all_goals
    have HR:Hid (∃wQ,TM (w1.setCell (aq T 11) (.func (.func f2) #[] tP)) T K M cap (runT (s,st) (x.data.toList.take (i+1))).1 wQ/\Nx (w1.setCell (aq T 11) (.func (.func f2) #[] tP)) T M wQ (runT (s,st) (x.data.toList.take (i+1))).2/\Ti (runT (s,st) (x.data.toList.take (i+1))).1/\Si (runT (s,st) (x.data.toList.take (i+1))).2/\C2 T M w (w1.setCell (aq T 11) (.func (.func f2) #[] tP))):=by show∃wQ,_;rw[HP.out];exact⟨.func (.func f2) #[] tP,H1.out.set 11 (.func (.func f2) #[] tP) (stepT p.1 bt p.2).1.r (.func (.func f2) #[] tP) rfl,N1.out.set 11,SO.out.1,SO.out.2,C1.out.set _ _⟩
    clear HP H1 N1 C1;go_wp2;go_roundw;case rel=>exact⟨i+1,by omega,by go_num,HR.out⟩
    case measure=>simp[intOf];omega
  ·have aR:¬(i:Int)<(x.size:Int):=by omega
   obtain rfl:i=x.size:=by omega
   have HF:Hid (x.data.toList.take x.size=x.data.toList):=im (by rw[jV];exact ae _);have HJ2:=HJ.out;rw[HF.out]at HJ2;obtain⟨nw,h1,h2,h3,h4,h5⟩:=HJ2;go_wp2;go_end0;exact⟨rfl,⟨nw,h1,h2⟩,h3,h4,h5⟩
end
theorem LB{l:List UInt8}(XZ:0x80<=aQ l 0)(hs:Az l=l.length)(hl:l≠[])(k:Nat)(hk:1<=k)(cZ:k<l.length):¬full (l.take k):=by
 have hp:0<l.length:=io.2 hl;rcases Qs XZ with⟨v,e⟩|⟨_,e⟩
 ·obtain⟨v1,v2,v3,v4⟩:=v;have hN:=Uu (aQ l 0);have b0:aQ (l.take k) 0=aQ l 0:=by unfold aQ;rw[ia,iq,if_pos (by omega),ia]
  have b1:1<k->aQ (l.take k) 1=aQ l 1:=fun q=>by unfold aQ;rw[ia,iq,if_pos q,ia]
  have b2:2<k->aQ (l.take k) 2=aQ l 2:=fun q=>by unfold aQ;rw[ia,iq,if_pos q,ia]
  have aO:(l.take k).length=k:=by rw[bU];omega
  rintro⟨_,q⟩;rw[b0,aO]at q;rcases q with q|q|q|⟨q,z⟩|⟨q,z⟩;·omega
  ·omega
  ·omega
  ·rw[b1 q]at z;omega
  ·rw[b2 q]at z;have:=v3 (by omega);omega
 ·omega
theorem Lj(t:Tm){l:List UInt8}(hl:l≠[])(hc:¬(aQ l 0<32\/aQ l 0=127))(hs:Az l=l.length){r:Int}(hr:ap l=[r]):runT (t,.out) l=(qM t r,.out):=by
 have hp:0<l.length:=io.2 hl;have RQ:=Od hl hs;by_cases h1:l.length=1;·obtain⟨b,rfl⟩:∃b,l=[b]:=List.length_eq_one_iff.1 h1;have eb:aQ [b] 0=b.toNat:=rfl;show jk t b=_;unfold jk;rw[if_neg (by rw[eb]at hc;omega),if_neg (by rw[eb]at hc;exact hc)];unfold tF;show(if full [b]then _ else _)=_;rw[if_pos RQ];show(qM t ((ap [b])[0]?.getD 0),St.out)=_;rw[hr];rfl
 ·have XZ:0x80<=aQ l 0:=by
   by_cases q:aQ l 0<0x80
   ·have:Az l=1:=by unfold Az;rw[if_pos q]
    omega
   ·omega
  have key:∀k,1<=k->k<l.length->runT (t,.out) (l.take k)=(t,.amid ⟨(l.take k).toArray⟩):=by
   intro k;induction k with
   |zero=>intro h;omega
   |succ k ih=>
    intro _ hk;have hnf:=LB XZ hs hl (k+1) (by omega) hk;have e:l.take (k+1)=l.take k++[l[k]]:=by rw[D',di (by omega)];rfl
    by_cases h0:k=0
    ·subst h0;have e1:l.take (0+1)=[l[0]]:=by rw[e];rfl
     rw[e1]at hnf⊢;have eb:aQ l 0=(l[0]'hp).toNat:=by unfold aQ;rw[ia,di hp];rfl
     show jk t (l[0]'hp)=_;unfold jk;rw[if_neg (by rw[<-eb];omega),if_neg (by rw[<-eb];omega)];unfold tF;show(if full [l[0]'hp]then _ else _)=_;rw[if_neg hnf]
    ·have hi:=ih (by omega) (by omega);rw[e,vj,hi];show LR t ⟨(l.take k).toArray⟩ (l[k]'(by omega))=_;have ea:((⟨(l.take k).toArray⟩:ByteArray)++(⟨#[l[k]'(by omega)]⟩:ByteArray))=⟨(l.take k++[l[k]'(by omega)]).toArray⟩:=by apply ju;simp
     unfold LR;rw[ea];rw[e]at hnf;show(if full (l.take k++[l[k]'(by omega)])/\_ then _ else _)=_;rw[if_neg (fun q=>hnf q.1)];unfold tF;show(if full (l.take k++[l[k]'(by omega)])then _ else _)=_;rw[if_neg hnf]
  obtain⟨m,hm⟩:∃m,l.length=m+1:=⟨l.length-1,by omega⟩;have e:l.take m++[l[m]'(by omega)]=l:=by
   have:l.take (m+1)=l.take m++[l[m]'(by omega)]:=by rw[D',di (by omega)];rfl
   rw[<-this,im (by omega)]
  have hk:=key m (by omega) (by omega);conv=>lhs;rw[<-e]
  rw[vj,hk];show LR t ⟨(l.take m).toArray⟩ (l[m]'(by omega))=_;have ea:((⟨(l.take m).toArray⟩:ByteArray)++(⟨#[l[m]'(by omega)]⟩:ByteArray))=⟨l.toArray⟩:=by
   apply ju;conv=>rhs;rw[<-e]
   simp
  unfold LR;rw[ea];show(if full l/\(ap l).length≠1 then _ else _)=_;rw[if_neg (fun q=>q.2 (by rw[hr];rfl))];unfold tF;show(if full l then _ else _)=_;rw[if_pos RQ];show(qM t ((ap l)[0]?.getD 0),St.out)=_;rw[hr];rfl
theorem Qn(t:Tm){r:Int}(hg:Good r)(fM:r≠10):runT (t,.out) (Lib.encodeRune r)=(qM t r,.out):=by
 have hr:ap (enc [r])=[r]:=xZ [r] (fun z hz=>by rw[pI]at hz;rw[hz];exact hg);have ee:enc [r]=Lib.encodeRune r:=by unfold enc;simp
 rw[ee]at hr;have hd:=Hg r hg.1 [];rw[ik]at hd;obtain⟨l,hl⟩:∃l,Lib.encodeRune r=l:=⟨_,rfl⟩;rw[hl]at hr hd⊢;have bj:l≠[]:=by rw[<-hl];have:=m5 r [];rw[ik]at this;exact this
 have hp:0<l.length:=io.2 bj;have hsh:=hg.2;have ux:0<=r:=by rcases hg.1 with h|h<;>omega
 have hs:Az l=l.length:=by
  rw[y_]at hd;by_cases q:Az l=0
  ·rw[if_pos q]at hd;have h1:=congrArg Prod.fst hd;have h2:=congrArg Prod.snd hd;simp only at h1 h2;have:r=65533:=by omega
   rw[this]at hl;have h3:(Lib.encodeRune 65533).length=3:=by decide+kernel
   rw[hl]at h3;omega
  ·rw[if_neg q]at hd;exact congrArg Prod.snd hd
 refine Lj t bj (fun q=>?_) hs hr;have XZ:aQ l 0<0x80:=by omega
 rw[yZ l XZ]at hd;have h1:=congrArg Prod.fst hd;simp only at h1;unfold fF at hsh;by_cases z:(r<32/\r≠10)\/(127<=r/\r<=159);·rw[if_pos z]at hsh;omega
 ·omega
theorem xY:∀(R:List Int) (t:Tm),(∀r∈R,Good r/\r≠10)->runT (t,.out) (enc R)=(kG t R,.out)
 |[],t,_=>rfl
 |r::R,t,h=>by have hr:=h r (nj ..);rw[Bq,jt,Qn t hr.1 hr.2];exact xY R (qM t r) (fun z hz=>h z (yf _ hz))
def Mg(W H:Nat):Tm:=⟨W,H,fun _ _=>bk 0 0 0,⟨0,0,0,0,0,0,0,⟨#[]⟩,0,0⟩⟩
theorem ti0(W H:Nat)(hH:1<=H):Ti (Mg W H):=⟨by show(0:Int)<=0;decide,by show(0:Int)<=(W:Int);omega,by show(0:Int)<=0;decide,by show(0:Int)<(H:Int);omega,by show(0:Int)<=0;decide,by show(0:Int)<=4;decide,by show((⟨#[]⟩:ByteArray).size:Int)<=4+4*0;decide⟩
theorem QE(W H:Int)(w:World)(h:¬((1<=W/\W<=400)/\(1<=H/\H<=400))):Calls Tryz.prog 5 #[.int .i64 W,.int .i64 H] w fun e w'=>e=Rw (.tuple #[.pointer none,.int .i64 6])/\w'=w:=by have NB:Hid (Calls Tryz.prog 16 #[.int .i64 W,.int .i64 H] w fun e w'=>e=Rw (.tuple #[.pointer none,.int .i64 6])/\w'=w):=Uv W H w h;clear h;go_enter Tryz.func5,Tryz.ntmps5;go_wp2_with fail;refine NB.out.mono ?_;rintro e w1 ⟨rfl,hw⟩;obtain rfl:=hw.symm;go_wp2;refine bodyPost_ret (v:=.tuple #[.pointer none,.int .i64 6]) (by simp[results,Tryz.results5,go_sem]) rfl ?_;exact⟨rfl,rfl⟩
theorem II(W H:Nat)(w:World)(hW:1<=W/\W<=400)(hH:1<=H/\H<=400)(hp:PAll W H (fun _ _=>bk 0 0 0)):Calls Tryz.prog 5 #[.int .i64 W,.int .i64 H] w fun e w'=>∃T K M,e=Rw (.tuple #[.pointer (some (aq T 0)),.int .i64 0])/\TM w' T K M (W*H) (Mg W H) (uh 17 #[])/\w.heap.size<=T/\w.heap.size<=K/\w.heap.size<=M/\Bt w w':=by
 have NO:Hid (Calls Tryz.prog 16 #[.int .i64 W,.int .i64 H] w fun e w'=>∃K M,e=Rw (.tuple #[.pointer (some (aq K 0)),.int .i64 0])/\CS 84 47 w' K M (W*H) W H (fun _ _=>bk 0 0 0)/\w.heap.size<=K/\w.heap.size<=M/\Bt w w'):=Pz W H w hW hH;go_enter Tryz.func5,Tryz.ntmps5;go_wp2_with fail;refine NO.out.mono ?_;rintro e w1 ⟨K,M,rfl,iD,hk,hm,b1⟩;have HD:Hid (TM (w1.alloc (.cells (W9 K (Mg W H).r (uh 17 #[])) 62)) w1.heap.size K M (W*H) (Mg W H) (uh 17 #[])/\w.heap.size<=w1.heap.size/\w.heap.size<=K/\w.heap.size<=M/\Bt w (w1.alloc (.cells (W9 K (Mg W H).r (uh 17 #[])) 62))):=
  ⟨⟨heap_alloc_new _ _,iD.gr ((Gr.refl _).alloc _),by have:=iD.klt;omega,by have:=iD.cv.lt;omega,hW,hH,hp⟩,b1.size,hk,hm,b1.alloc b1.size _⟩;clear iD hk hm b1;go_wp2;refine bodyPost_ret (v:=.tuple #[.pointer (some (aq w1.heap.size 0)),.int .i64 0]) (by simp[results,Tryz.results5,go_sem]) rfl ?_;exact⟨_,K,M,rfl,HD.out.1,HD.out.2.1,HD.out.2.2.1,HD.out.2.2.2.1,HD.out.2.2.2.2⟩
section
variable{T K M cap:Nat} {s:Tm} {nv:Value}
theorem Gk(w:World)(h:TM w T K M cap s nv):Calls Tryz.prog 15 #[.pointer (some (aq T 0))] w fun e w'=>∃N cH,e=Rw (.slice (some (aq N 0)) (s.W*s.H) cH)/\Cv 47 w' N s.W s.H s.c/\w.heap.size<=N/\Bt w w':=by have c0:w.cell? (aq T 0)=some (.pointer (some (aq K 0))):=h.at rfl;have CC:Hid (Calls Tryz.prog 27 #[.pointer (some (aq K 0))] w fun e w'=>∃N cH,e=Rw (.slice (some (aq N 0)) (s.W*s.H) cH)/\Cv 47 w' N s.W s.H s.c/\w.heap.size<=N/\Bt w w'):=JR w h.cs h.hW h.hH;clear h;go_enter Tryz.func15,Tryz.ntmps15;go_wp2_with fail;refine CC.out.mono ?_;rintro e w1 ⟨N,cp,rfl,q⟩;have HQ:Hid (Cv 47 w1 N s.W s.H s.c/\w.heap.size<=N/\Bt w w1):=q;clear q;go_wp2;go_ret;exact⟨N,cp,rfl,HQ.out.1,HQ.out.2.1,HQ.out.2.2⟩
end
theorem vp{W H x y a b:Int}(hW:1<=W/\W<=400)(hH:1<=H/\H<=400)(hx:0<=x)(ha:1<=a)(hxa:x+a<=W)(hy:0<=y)(hb:1<=b)(hyb:y+b<=H):dx W H x y a b 0 0 W H=(x,y,a,b):=by
 have e1:kR x y a b 0 0 W H=(x,y,a,b):=by rw[sP,mH (n:=x) (by omega),mH (n:=y) (by omega),dP (n:=a) (by omega),dP (n:=b) (by omega),dP (n:=W) (by omega),dP (n:=H) (by omega),show bM 0=0 from rfl];unfold cq;rw[if_neg (by omega)];refine yu ?_ (yu ?_ (yu ?_ ?_))<;>simp only<;>omega
 unfold dx;rw[e1];simp only;rw[sP,mH (n:=x) (by omega),mH (n:=y) (by omega),dP (n:=a) (by omega),dP (n:=b) (by omega),dP (n:=W) (by omega),dP (n:=H) (by omega),show bM 0=0 from rfl];unfold cq;rw[if_neg (by omega)];refine yu ?_ (yu ?_ (yu ?_ ?_))<;>simp only<;>omega
theorem xV{W H:Nat}(hW:1<=W/\W<=400)(hH:1<=H/\H<=400)(c:Nat->Nat->Ce){x y:Nat}{wd:Int}(fk:ByteArray)(f g b:Int)(hw:wd=1\/wd=2)(hx:(x:Int)+wd<=W)(hy:y<H):
 iY W H c x y fk wd f g b 0 0 W H=fill c x (x+wd.toNat) y (y+1) (xB x wd fk (kn f) (kn g) (bo b)):=by unfold iY;rw[vp (by omega) (by omega) (by omega) (by omega) (by omega) (by omega) (by omega) (by omega)];unfold Ld putX;rw[if_pos hw];simp only;rw[if_neg (by omega)];congr 1<;>omega
theorem J'{W H:Nat}(hW:1<=W/\W<=400)(hH:1<=H/\H<=400)(c:Nat->Nat->Ce){y x:Nat}(hy:y<H)(hx:x<W):kq W H c 0 0 W H 0 0 0 0 0 W H y x=bk 0 0 0:=by unfold kq;rw[vp (by omega) (by omega) (by omega) (by omega) (by omega) (by omega) (by omega) (by omega)];simp only;unfold fill;rw[if_pos (by omega),dQ (by omega)];rfl
theorem TM.same{w:World}{T K M cap:Nat}{s:Tm}{nv:Value}{c':Nat->Nat->Ce}(h:TM w T K M cap s nv)(hc:∀y x,y<s.H->x<s.W->s.c y x=c' y x)(hp:PAll s.W s.H c'):TM w T K M cap {s with c:=c'} nv:=
 ⟨h.tb,⟨h.cs.kb,h.cs.cv.same hc,h.cs.ne,h.cs.hc⟩,h.tk,h.tm,h.hW,h.hH,hp⟩
theorem Lu{r x x':Nat->Ce}{a z:Nat}(h0:(x a).p≠2)(h1:(x (z-1)).p≠1):span (span r a z x) a z x'=span r a z x':=by
 by_cases haz:a<z
 ·funext j;by_cases eU:a<=j/\j<z;·rw[dQ eU,dQ eU]
  ·have e1:span r a z x a=x a:=dQ ⟨ae _,haz⟩;have e2:span r a z x (z-1)=x (z-1):=dQ ⟨by omega,by omega⟩;have lhs:span (span r a z x) a z x' j=span r a z x j:=by show(if a<=j/\j<z then x' j else if a<z/\j+1=a/\(span r a z x a).p=2 then bl (span r a z x j)else if a<z/\j=z/\(span r a z x (z-1)).p=1 then bl (span r a z x j)else span r a z x j)=_;rw[if_neg eU,e1,e2,if_neg (fun q=>h0 q.2.2),if_neg (fun q=>h1 q.2.2)]
   rw[lhs];unfold span;rw[if_neg eU,if_neg eU]
 ·rw[jY haz,jY haz,jY haz]
theorem Kc{c:Nat->Nat->Ce}{x x':Nat->Ce}{l r t d:Nat}(h0:(x l).p≠2)(h1:(x (r-1)).p≠1):fill (fill c l r t d x) l r t d x'=fill c l r t d x':=by
 funext y;unfold fill;by_cases h:t<=y/\y<d;·rw[if_pos h,if_pos h,if_pos h,Lu h0 h1]
 ·rw[if_neg h,if_neg h,if_neg h]
theorem Ko(X:Nat)(wd:Int)(hw:wd=1\/wd=2)(fk:ByteArray)(f g b:Int):(xB X wd fk f g b X).p≠2/\(xB X wd fk f g b (X+wd.toNat-1)).p≠1:=by
 unfold xB;rcases hw with h|h;·subst h;rw[if_neg (by decide),if_neg (by decide)];exact⟨by show(0:Int)≠2;decide,by show(0:Int)≠1;decide⟩
 ·subst h;rw[if_pos rfl,if_pos rfl,if_pos rfl,if_neg (by show¬X+2-1=X;omega)];exact⟨by show(1:Int)≠2;decide,by show(2:Int)≠1;decide⟩
theorem NZ(a b:List Int):enc (a++b)=enc a++enc b:=by unfold enc;rw[Ra]
def sd(t:Tm)(X Y:Nat)(R:List Int)(n:Int):Tm:=⟨t.W,t.H,fill t.c X (X+n.toNat) Y (Y+1) (xB X n ⟨(enc R).toArray⟩ (kn t.r.f) (kn t.r.g) (bo t.r.b)),{clr t.r with x:=X+n,y:=Y,lx:=X,ly:=Y,lt:=⟨(enc R).toArray⟩,lw:=n,lm:=(R.length:Int)-1}⟩
theorem Nz{t:Tm}(hW:1<=t.W/\t.W<=400)(hH:1<=t.H/\t.H<=400){X Y:Nat}(hx:t.r.x=X)(hy:t.r.y=Y)(hY:Y<t.H){b:Int}{n:Int}(hb:kY b=n)(hn:n=1\/n=2)(hX:(X:Int)+n<=t.W):∀(ms:List Int),(∀m∈ms,kY m=0)->ms.length<=4->kG t (b::ms)=sd t X Y (b::ms) n:=by
 have h1:qM t b=sd t X Y [b] n:=by unfold qM;rw[hb,if_neg (by omega),if_neg (by rw[hx];omega)];unfold sd sB;simp only;rw[hx,hy];have e:iY t.W t.H t.c (X:Int) (Y:Int) ⟨(enc [b]).toArray⟩ n t.r.f t.r.g t.r.b 0 0 t.W t.H=_:=xV hW hH t.c ⟨(enc [b]).toArray⟩ t.r.f t.r.g t.r.b hn hX hY;have e2:iY t.W t.H t.c (X:Int) (Y:Int) ⟨(enc [b]).toArray⟩ n (clr t.r).f (clr t.r).g (clr t.r).b 0 0 t.W t.H=iY t.W t.H t.c (X:Int) (Y:Int) ⟨(enc [b]).toArray⟩ n t.r.f t.r.g t.r.b 0 0 t.W t.H:=rfl;rw[e2,e];unfold clr;simp[hy]
 have key:∀k,∀ms:List Int,ms.length=k->(∀m∈ms,kY m=0)->ms.length<=4->kG t (b::ms)=sd t X Y (b::ms) n:=by
  intro k;induction k with
  |zero=>intro ms hk _ _;obtain rfl:=jy.1 hk;exact h1
  |succ k ih=>
   intro ms hk hm hl;have bj:ms≠[]:=by intro e;rw[e]at hk;simp at hk
   obtain⟨ps,m,rfl⟩:∃ps m,ms=ps++[m]:=⟨ms.dropLast,ms.getLast bj,(List.dropLast_concat_getLast bj).symm⟩;have Hv:ps.length=k:=by rw[aI]at hk;simp at hk;exact hk
   have hi:=ih ps Hv (fun z hz=>hm z (List.mem_append_left _ hz)) (by rw[aI]at hl;simp at hl;omega);have hwm:=hm m (List.mem_append_right _ (pI.2 rfl));rw[<-List.cons_append,Dr,hi];unfold qM;rw[if_pos hwm];unfold jq;have BU:(sd t X Y (b::ps) n).r.lm=(ps.length:Int):=by show((b::ps).length:Int)-1=_;simp
   have _j:(sd t X Y (b::ps) n).r.lw=n:=rfl;have hl4:ps.length<4:=by rw[aI]at hl;simp at hl;omega
   rw[if_neg (by rw[BU,_j];omega)];have et:(⟨(enc (b::ps)).toArray⟩:ByteArray)++⟨(enc [m]).toArray⟩=⟨(enc (b::ps++[m])).toArray⟩:=by apply ju;rw[NZ];simp
   unfold sB;simp only;have ec:iY t.W t.H (sd t X Y (b::ps) n).c (X:Int) (Y:Int) ((⟨(enc (b::ps)).toArray⟩:ByteArray)++⟨(enc [m]).toArray⟩) n t.r.f t.r.g t.r.b 0 0 t.W t.H=fill t.c X (X+n.toNat) Y (Y+1) (xB X n ⟨(enc (b::ps++[m])).toArray⟩ (kn t.r.f) (kn t.r.g) (bo t.r.b)):=by rw[xV hW hH _ _ t.r.f t.r.g t.r.b hn hX hY,et];have hg:=Ko X n hn ⟨(enc (b::ps)).toArray⟩ (kn t.r.f) (kn t.r.g) (bo t.r.b);exact Kc hg.1 hg.2
   show(⟨t.W,t.H,iY t.W t.H (sd t X Y (b::ps) n).c (X:Int) (Y:Int) ((⟨(enc (b::ps)).toArray⟩:ByteArray)++⟨(enc [m]).toArray⟩) n t.r.f t.r.g t.r.b 0 0 t.W t.H,_⟩:Tm)=_;rw[ec];unfold sd;simp only;rw[<-et];congr 1;simp
 exact fun ms h1 h2=>key ms.length ms rfl h1 h2
theorem qu{p:Int->Bool}{m:Int}:∀{l:List Int},m∈l.takeWhile p->p m=true
 |[],h=>by cases h
 |a::l,h=>by
  rw[Rb]at h;by_cases q:p a=true
  ·rw[if_pos q]at h;rcases ja.1 h with rfl|h;·exact q
   ·exact qu h
  ·rw[if_neg q]at h;cases h
theorem xq{l:List UInt8}{n:Int}(hn:n=1\/n=2)(h:bi (ap l)=[(l,n)]):∃b ms,l=enc (b::ms)/\kY b=n/\(∀m∈ms,kY m=0)/\ms.length<=4/\∀r∈b::ms,Good r/\r≠10:=by
 obtain⟨R,hR⟩:∃R,ap l=R:=⟨_,rfl⟩;have Hq:∀r∈R,Good r:=by rw[<-hR];exact vn l
 rw[hR]at h;have bj:R≠[]:=by intro e;rw[e,gS]at h;cases h
 rw[eI bj]at h;injection h with h h';injection h with ht hw;obtain⟨r,R',rfl⟩:=Xe bj;have fM:r≠10:=by
  intro e;have:fR (r::R')=0:=by show(if r=10 then(0:Int)else _)=0;rw[if_pos e]
  omega
 have et:eY (r::R')=enc (dO (r::R')::(dk (r::R')).take 4):=by show(if r=10 then _ else _)=_;rw[if_neg fM]
 have ew:fR (r::R')=kY (dO (r::R')):=by show(if r=10 then _ else _)=_;rw[if_neg fM]
 refine⟨dO (r::R'),(dk (r::R')).take 4,by rw[<-et,ht],by rw[<-ew,hw],fun m hm=>?_,by rw[bU];omega,fun z hz=>?_⟩;·have h1:=nt hm;unfold dk Er at h1;have:=qu h1;exact((oQ m).1 this).2
 ·rcases ja.1 hz with rfl|hz
  ·have hb:dO (r::R')=32\/dO (r::R')=r:=by show(if gh r=true then _ else _)=_\/_;unfold dO;by_cases q:gh r=true;simp[q];simp[q]
   rcases hb with e|e;·rw[e];exact⟨⟨.inl ⟨by decide,by decide⟩,by decide⟩,by decide⟩
   ·rw[e];exact⟨Hq r (nj ..),fM⟩
  ·have h1:=nt hz;unfold dk Er at h1;have h2:=qu h1;have h3:z∈r::R':=l8 ((Rc _).subset h1);exact⟨Hq z h3,((oQ z).1 h2).1⟩
section
variable{T K M cap:Nat} {s:Tm} {nv:Value}
structure Res(w w':World)(T W H:Nat):Prop where
 tm:∃K M,TM w' T K M (W*H) (Mg W H) (uh 17 #[])/\w.heap.size<=K/\w.heap.size<=M
 c2:C2 T T w w'
theorem zcK{Q:World}{T:Nat}{τ:TypeId}{a0 a1 a2 a3 a4 a5 a6 a7 a8 a9 MR LQ:Value}(b0 b1 b2 b3 b4 b5 b6 b7 b8 b9 V6 b11:Value)(h:Q.heap[T]?=some (.cells #[a0,a1,a2,a3,a4,a5,a6,a7,a8,a9,MR,LQ] τ (0,0))):((((((((((((Q.setCell (aq T 0) b0).setCell (aq T 1) b1).setCell (aq T 2) b2).setCell (aq T 3) b3).setCell (aq T 4) b4).setCell (aq T 5) b5).setCell (aq T 6) b6).setCell (aq T 7) b7).setCell (aq T 8) b8).setCell (aq T 9) b9).setCell (aq T 10) V6).setCell (aq T 11) b11).heap[T]?=some (.cells #[b0,b1,b2,b3,b4,b5,b6,b7,b8,b9,V6,b11] τ (0,0)):=by have h:(Q.setCell (aq T 0) b0).heap[T]?=some (.cells #[b0,a1,a2,a3,a4,a5,a6,a7,a8,a9,MR,LQ] τ (0,0)):=heap_setCell_same Q T 0 _ _ b0 h;have h:((Q.setCell (aq T 0) b0).setCell (aq T 1) b1).heap[T]?=some (.cells #[b0,b1,a2,a3,a4,a5,a6,a7,a8,a9,MR,LQ] τ (0,0)):=heap_setCell_same (Q.setCell (aq T 0) b0) T 1 _ _ b1 h;have h:(((Q.setCell (aq T 0) b0).setCell (aq T 1) b1).setCell (aq T 2) b2).heap[T]?=some (.cells #[b0,b1,b2,a3,a4,a5,a6,a7,a8,a9,MR,LQ] τ (0,0)):=heap_setCell_same ((Q.setCell (aq T 0) b0).setCell (aq T 1) b1) T 2 _ _ b2 h;have h:((((Q.setCell (aq T 0) b0).setCell (aq T 1) b1).setCell (aq T 2) b2).setCell (aq T 3) b3).heap[T]?=some (.cells #[b0,b1,b2,b3,a4,a5,a6,a7,a8,a9,MR,LQ] τ (0,0)):=heap_setCell_same (((Q.setCell (aq T 0) b0).setCell (aq T 1) b1).setCell (aq T 2) b2) T 3 _ _ b3 h;have h:(((((Q.setCell (aq T 0) b0).setCell (aq T 1) b1).setCell (aq T 2) b2).setCell (aq T 3) b3).setCell (aq T 4) b4).heap[T]?=some (.cells #[b0,b1,b2,b3,b4,a5,a6,a7,a8,a9,MR,LQ] τ (0,0)):=heap_setCell_same ((((Q.setCell (aq T 0) b0).setCell (aq T 1) b1).setCell (aq T 2) b2).setCell (aq T 3) b3) T 4 _ _ b4 h;have h:((((((Q.setCell (aq T 0) b0).setCell (aq T 1) b1).setCell (aq T 2) b2).setCell (aq T 3) b3).setCell (aq T 4) b4).setCell (aq T 5) b5).heap[T]?=some (.cells #[b0,b1,b2,b3,b4,b5,a6,a7,a8,a9,MR,LQ] τ (0,0)):=heap_setCell_same (((((Q.setCell (aq T 0) b0).setCell (aq T 1) b1).setCell (aq T 2) b2).setCell (aq T 3) b3).setCell (aq T 4) b4) T 5 _ _ b5 h;have h:(((((((Q.setCell (aq T 0) b0).setCell (aq T 1) b1).setCell (aq T 2) b2).setCell (aq T 3) b3).setCell (aq T 4) b4).setCell (aq T 5) b5).setCell (aq T 6) b6).heap[T]?=some (.cells #[b0,b1,b2,b3,b4,b5,b6,a7,a8,a9,MR,LQ] τ (0,0)):=heap_setCell_same ((((((Q.setCell (aq T 0) b0).setCell (aq T 1) b1).setCell (aq T 2) b2).setCell (aq T 3) b3).setCell (aq T 4) b4).setCell (aq T 5) b5) T 6 _ _ b6 h;have h:((((((((Q.setCell (aq T 0) b0).setCell (aq T 1) b1).setCell (aq T 2) b2).setCell (aq T 3) b3).setCell (aq T 4) b4).setCell (aq T 5) b5).setCell (aq T 6) b6).setCell (aq T 7) b7).heap[T]?=some (.cells #[b0,b1,b2,b3,b4,b5,b6,b7,a8,a9,MR,LQ] τ (0,0)):=heap_setCell_same (((((((Q.setCell (aq T 0) b0).setCell (aq T 1) b1).setCell (aq T 2) b2).setCell (aq T 3) b3).setCell (aq T 4) b4).setCell (aq T 5) b5).setCell (aq T 6) b6) T 7 _ _ b7 h;have h:(((((((((Q.setCell (aq T 0) b0).setCell (aq T 1) b1).setCell (aq T 2) b2).setCell (aq T 3) b3).setCell (aq T 4) b4).setCell (aq T 5) b5).setCell (aq T 6) b6).setCell (aq T 7) b7).setCell (aq T 8) b8).heap[T]?=some (.cells #[b0,b1,b2,b3,b4,b5,b6,b7,b8,a9,MR,LQ] τ (0,0)):=heap_setCell_same ((((((((Q.setCell (aq T 0) b0).setCell (aq T 1) b1).setCell (aq T 2) b2).setCell (aq T 3) b3).setCell (aq T 4) b4).setCell (aq T 5) b5).setCell (aq T 6) b6).setCell (aq T 7) b7) T 8 _ _ b8 h;have h:((((((((((Q.setCell (aq T 0) b0).setCell (aq T 1) b1).setCell (aq T 2) b2).setCell (aq T 3) b3).setCell (aq T 4) b4).setCell (aq T 5) b5).setCell (aq T 6) b6).setCell (aq T 7) b7).setCell (aq T 8) b8).setCell (aq T 9) b9).heap[T]?=some (.cells #[b0,b1,b2,b3,b4,b5,b6,b7,b8,b9,MR,LQ] τ (0,0)):=heap_setCell_same (((((((((Q.setCell (aq T 0) b0).setCell (aq T 1) b1).setCell (aq T 2) b2).setCell (aq T 3) b3).setCell (aq T 4) b4).setCell (aq T 5) b5).setCell (aq T 6) b6).setCell (aq T 7) b7).setCell (aq T 8) b8) T 9 _ _ b9 h;have h:(((((((((((Q.setCell (aq T 0) b0).setCell (aq T 1) b1).setCell (aq T 2) b2).setCell (aq T 3) b3).setCell (aq T 4) b4).setCell (aq T 5) b5).setCell (aq T 6) b6).setCell (aq T 7) b7).setCell (aq T 8) b8).setCell (aq T 9) b9).setCell (aq T 10) V6).heap[T]?=some (.cells #[b0,b1,b2,b3,b4,b5,b6,b7,b8,b9,V6,LQ] τ (0,0)):=heap_setCell_same ((((((((((Q.setCell (aq T 0) b0).setCell (aq T 1) b1).setCell (aq T 2) b2).setCell (aq T 3) b3).setCell (aq T 4) b4).setCell (aq T 5) b5).setCell (aq T 6) b6).setCell (aq T 7) b7).setCell (aq T 8) b8).setCell (aq T 9) b9) T 10 _ _ V6 h;have h:((((((((((((Q.setCell (aq T 0) b0).setCell (aq T 1) b1).setCell (aq T 2) b2).setCell (aq T 3) b3).setCell (aq T 4) b4).setCell (aq T 5) b5).setCell (aq T 6) b6).setCell (aq T 7) b7).setCell (aq T 8) b8).setCell (aq T 9) b9).setCell (aq T 10) V6).setCell (aq T 11) b11).heap[T]?=some (.cells #[b0,b1,b2,b3,b4,b5,b6,b7,b8,b9,V6,b11] τ (0,0)):=heap_setCell_same (((((((((((Q.setCell (aq T 0) b0).setCell (aq T 1) b1).setCell (aq T 2) b2).setCell (aq T 3) b3).setCell (aq T 4) b4).setCell (aq T 5) b5).setCell (aq T 6) b6).setCell (aq T 7) b7).setCell (aq T 8) b8).setCell (aq T 9) b9).setCell (aq T 10) V6) T 11 _ _ b11 h;exact h
theorem F0(w:World)(h:TM w T K M cap s nv)(W H:Nat)(hW:1<=W/\W<=400)(hH:1<=H/\H<=400)(hp:PAll W H (fun _ _=>bk 0 0 0)):Calls Tryz.prog 9 #[.pointer (some (aq T 0)),.int .i64 W,.int .i64 H] w fun e w'=>e=Rw (.int .i64 0)/\Res w w' T W H:=by have NO:Hid (Calls Tryz.prog 5 #[.int .i64 W,.int .i64 H] w fun e w'=>∃T K M,e=Rw (.tuple #[.pointer (some (aq T 0)),.int .i64 0])/\TM w' T K M (W*H) (Mg W H) (uh 17 #[])/\w.heap.size<=T/\w.heap.size<=K/\w.heap.size<=M/\Bt w w'):=II W H w hW hH hp;have HM:Hid (TM w T K M cap s nv):=h;have hlt:=h.lt;clear h;go_enter Tryz.func9,Tryz.ntmps9;go_wp2_with fail;refine NO.out.mono ?_;rintro e w1 ⟨T',K',M',rfl,h1,hT,hK,hM,b1⟩;have H1:Hid (TM w1 T' K' M' (W*H) (Mg W H) (uh 17 #[])):=h1;have HO:Hid (TM w1 T K M cap s nv):=HM.out.below b1;have B1:Hid (Bt w w1):=b1;have c0:w1.cell? (aq T' 0)=some (.pointer (some (aq K' 0))):=h1.at rfl;have c1:w1.cell? (aq T' 1)=some (.int .i64 0):=h1.at rfl;have c2:w1.cell? (aq T' 2)=some (.int .i64 0):=h1.at rfl;have c3:w1.cell? (aq T' 3)=some (.int .i64 0):=h1.at rfl;have c4:w1.cell? (aq T' 4)=some (.int .i64 0):=h1.at rfl;have c5:w1.cell? (aq T' 5)=some (.int .i64 0):=h1.at rfl;have c6:w1.cell? (aq T' 6)=some (.int .i64 0):=h1.at rfl;have c7:w1.cell? (aq T' 7)=some (.int .i64 0):=h1.at rfl;have c8:w1.cell? (aq T' 8)=some (.string ⟨#[]⟩):=h1.at rfl;have c9:w1.cell? (aq T' 9)=some (.int .i64 0):=h1.at rfl;have c10:w1.cell? (aq T' 10)=some (.int .i64 0):=h1.at rfl;have c11:w1.cell? (aq T' 11)=some (.func (.func 17) #[] #[]):=h1.at rfl;have d0:w1.cell? (aq T 0)=some (.pointer (some (aq K 0))):=HO.out.at rfl;have d1:w1.cell? (aq T 1)=some (.int .i64 s.r.x):=HO.out.at rfl;have d2:w1.cell? (aq T 2)=some (.int .i64 s.r.y):=HO.out.at rfl;have d3:w1.cell? (aq T 3)=some (.int .i64 s.r.f):=HO.out.at rfl;have d4:w1.cell? (aq T 4)=some (.int .i64 s.r.g):=HO.out.at rfl;have d5:w1.cell? (aq T 5)=some (.int .i64 s.r.b):=HO.out.at rfl;have d6:w1.cell? (aq T 6)=some (.int .i64 s.r.lx):=HO.out.at rfl;have d7:w1.cell? (aq T 7)=some (.int .i64 s.r.ly):=HO.out.at rfl;have d8:w1.cell? (aq T 8)=some (.string s.r.lt):=HO.out.at rfl;have d9:w1.cell? (aq T 9)=some (.int .i64 s.r.lw):=HO.out.at rfl;have d10:w1.cell? (aq T 10)=some (.int .i64 s.r.lm):=HO.out.at rfl;have d11:w1.cell? (aq T 11)=some (nv):=HO.out.at rfl;have fz:=HO.out.fz;clear h1 b1 NO HM;go_wp2;go_ret;have g:=(((((((((((((C2.refl T T w1).set 0 (.pointer (some (aq K' 0)))).set 1 (.int .i64 0)).set 2 (.int .i64 0)).set 3 (.int .i64 0)).set 4 (.int .i64 0)).set 5 (.int .i64 0)).set 6 (.int .i64 0)).set 7 (.int .i64 0)).set 8 (.string ⟨#[]⟩)).set 9 (.int .i64 0)).set 10 (.int .i64 0)).set 11 (.func (.func 17) #[] #[]));have hb:=zcK (.pointer (some (aq K' 0))) (.int .i64 0) (.int .i64 0) (.int .i64 0) (.int .i64 0) (.int .i64 0) (.int .i64 0) (.int .i64 0) (.string ⟨#[]⟩) (.int .i64 0) (.int .i64 0) (.func (.func 17) #[] #[]) HO.out.tb;exact⟨rfl,⟨K',M',⟨hb,⟨(g.block K' H1.out.cs.klt (by omega) (by omega)).trans H1.out.cs.kb,H1.out.cs.cv.keep (g.block M' H1.out.cs.cv.lt (by omega) (by omega)),H1.out.cs.ne,H1.out.cs.hc⟩,by omega,by omega,hW,hH,hp⟩,hK,hM⟩,(C2.below B1.out).trans g⟩
end
