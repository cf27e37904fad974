import Derived.Test.YtmbefonnkkhfgaaGreatDoorQ00
import Derived.Test.YtmbefonnkkhfgaaGreatDoorRows
import Derived.WalkKit
import Derived.WalkSpells
import Derived.WalkLawsBesides
import Derived.RegionTactic
import Derived.BigRegion
import Derived.BigQuiet
import Derived.Deep.QuietTactic
set_option linter.unusedVariables false
set_option maxRecDepth 100000
set_option maxHeartbeats 16000000
namespace Go.Proofs.YtmbefonnkkhfgaaGreatDoor
section
open Go.RowKit Go.Proofs.Tryz
def IRow(W:World)(blk off:Nat)(d:List Int):Prop:=blk<W.heap.size∧∀j,j<d.length->W.cell? ⟨blk,off+j,none⟩=some (Iq (d[j]?.getD 0))∧W.frozen? ⟨blk,off+j,none⟩=false
theorem grown_refl(W:World)(r:Option Nat):W.grownBy W r:=⟨rfl,rfl,rfl,Nat.le_refl _,fun _ _ _=>rfl⟩
theorem grown_trans{A B C:World}{b:Nat}(h:A.grownBy B (some b))(k:B.grownBy C (some b)):A.grownBy C (some b):=
 ⟨k.os.trans h.os,k.tape.trans h.tape,k.output.trans h.output,Nat.le_trans h.size k.size,fun i hi hn=>(k.block i (Nat.lt_of_lt_of_le hi h.size) hn).trans (h.block i hi hn)⟩
theorem grown_below{A B:World}{b:Nat}(h:Below A.heap.size A B):A.grownBy B (some b):=⟨h.os,h.tape,h.output,h.size,fun i hi _=>h.block i hi⟩
theorem grown_set(W:World)(blk i:Nat)(v:Value):W.grownBy (W.setCell ⟨blk,i,none⟩ v) (some blk):=
 ⟨rfl,rfl,rfl,by simp,fun k _ hk=>heap_setCell_other _ _ _ _ (fun e=>hk (by rw[e]))⟩
theorem grown_drewN(W:World)(n:Nat)(r:Option Nat):W.grownBy (W.drewN n) r:=⟨rfl,rfl,rfl,Nat.le_refl _,fun _ _ _=>rfl⟩
theorem IRow.below{A B:World}{blk off:Nat}{d:List Int}(h:IRow A blk off d)(hb:Below A.heap.size A B):IRow B blk off d:=
 ⟨Nat.lt_of_lt_of_le h.1 hb.size,fun j hj=>⟨(hb.cell (p:=⟨blk,off+j,none⟩) h.1).trans (h.2 j hj).1,(hb.frozen (p:=⟨blk,off+j,none⟩) h.1).trans (h.2 j hj).2⟩⟩
theorem IRow.drewN{A:World}{blk off:Nat}{d:List Int}(h:IRow A blk off d)(n:Nat):IRow (A.drewN n) blk off d:=h
theorem grown_drew{A B:World}{b:Nat}(h:A.grownBy B (some b)):A.grownBy B.drew (some b):=⟨h.os,h.tape,h.output,h.size,h.block⟩
def swp(d:List Int)(i j:Nat):List Int:=(d.set i (d[j]?.getD 0)).set j (d[i]?.getD 0)
theorem swp_length(d:List Int)(i j:Nat):(swp d i j).length=d.length:=by simp[swp]
theorem swp_at(d:List Int)(i j k:Nat)(hi:i<d.length)(hj:j<d.length):(swp d i j)[k]?.getD 0=if k=j then d[i]?.getD 0 else if k=i then d[j]?.getD 0 else d[k]?.getD 0:=by
 unfold swp;rw[List.getElem?_set,List.getElem?_set];by_cases h1:j=k;·subst h1;simp[hj]
 ·have h1':¬k=j:=fun e=>h1 e.symm;simp only[if_neg h1,if_neg h1'];by_cases h2:i=k;·subst h2;simp[hi]
  ·have h2':¬k=i:=fun e=>h2 e.symm;simp only[if_neg h2,if_neg h2']
theorem irow_set2{W:World}{blk off:Nat}{d:List Int}(h:IRow W blk off d)(i j:Nat)(hi:i<d.length)(hj:j<d.length):
 IRow ((W.setCell ⟨blk,off+i,none⟩ (Iq (d[j]?.getD 0))).setCell ⟨blk,off+j,none⟩ (Iq (d[i]?.getD 0))) blk off (swp d i j):=by
 refine⟨by simpa using h.1,fun k hk=>?_⟩;rw[swp_length]at hk;simp only[World.frozen?_setCell];refine⟨?_,(h.2 k hk).2⟩;rw[swp_at d i j k hi hj];have hc:=(h.2 k hk).1;by_cases h1:k=j
 ·subst h1;rw[if_pos rfl];refine World.cell?_setCell_same' _ _ _ ?_;by_cases h2:i=k;·subst h2;rw[World.cell?_setCell_same' _ _ _ (by rw[hc];rfl)];rfl
  ·rw[World.cell?_setCell_other _ _ _ _ (fun e=>h2 (by injection e with e1 e2;omega)),hc];rfl
 ·rw[if_neg h1,World.cell?_setCell_other _ _ _ _ (fun e=>h1 (by injection e with e1 e2;omega))];by_cases h2:k=i;·subst h2;rw[if_pos rfl];exact World.cell?_setCell_same' _ _ _ (by rw[hc];rfl)
  ·rw[if_neg h2,World.cell?_setCell_other _ _ _ _ (fun e=>h2 (by injection e with e1 e2;omega)),hc]
def swpN(d:List Int)(a b:Nat):Nat->List Int
 |0=>d
 |k+1=>swp (swpN d a b k) (a+k) (b+k)
theorem swpN_length(d:List Int)(a b:Nat):∀k,(swpN d a b k).length=d.length
 |0=>rfl
 |k+1=>by rw[swpN,swp_length,swpN_length d a b k]
theorem swpN_at(d:List Int)(a b:Nat):∀k t,a+k≤b->b+k≤d.length->(swpN d a b k)[t]?.getD 0=if a≤t∧t<a+k then d[b+(t-a)]?.getD 0 else if b≤t∧t<b+k then d[a+(t-b)]?.getD 0 else d[t]?.getD 0
 |0,t,_,_=>by rw[if_neg (by omega),if_neg (by omega)];rfl
 |k+1,t,hab,hb=>by
  have ih:=fun t=>swpN_at d a b k t (by omega) (by omega);have hl:=swpN_length d a b k;show(swp (swpN d a b k) (a+k) (b+k))[t]?.getD 0=_;rw[swp_at _ _ _ _ (by omega) (by omega),ih (a+k),ih (b+k),ih t];rw[if_neg (show¬(a≤a+k∧a+k<a+k)by omega),if_neg (show¬(b≤a+k∧a+k<b+k)by omega),if_neg (show¬(a≤b+k∧b+k<a+k)by omega),if_neg (show¬(b≤b+k∧b+k<b+k)by omega)];by_cases h1:t=b+k;·rw[if_pos h1,if_neg (by omega),if_pos (by omega)];congr 2;omega
  ·rw[if_neg h1];by_cases h2:t=a+k;·rw[if_pos h2,if_pos (by omega)];congr 2;omega
   ·rw[if_neg h2];by_cases h3:a≤t∧t<a+k;·rw[if_pos h3,if_pos (by omega)]
    ·rw[if_neg h3,if_neg (show¬(a≤t∧t<a+(k+1))by omega)];by_cases h4:b≤t∧t<b+k;·rw[if_pos h4,if_pos (by omega)]
     ·rw[if_neg h4,if_neg (show¬(b≤t∧t<b+(k+1))by omega)]
theorem list_same{d e:List Int}(hl:d.length=e.length)(h:∀t,t<d.length->d[t]?.getD 0=e[t]?.getD 0):d=e:=by apply List.ext_getElem hl;intro t h1 h2;have:=h t h1;rw[List.getElem?_eq_getElem h1,List.getElem?_eq_getElem h2]at this;simpa using this
theorem app_at(x y:List Int)(t:Nat):(x++y)[t]?.getD 0=if t<x.length then x[t]?.getD 0 else y[t-x.length]?.getD 0:=by
 by_cases h:t<x.length;·rw[if_pos h,List.getElem?_append_left h]
 ·rw[if_neg h,List.getElem?_append_right (by omega)]
theorem swpN_list(P X M Y S:List Int)(h:X.length=Y.length):swpN (P++X++M++Y++S) P.length (P.length+X.length+M.length) X.length=P++Y++M++X++S:=by
 refine list_same (by rw[swpN_length];simp only[List.length_append];omega) fun t ht=>?_;rw[swpN_length]at ht;simp only[List.length_append]at ht;rw[swpN_at _ _ _ _ _ (by omega) (by simp only[List.length_append];omega)];simp only[app_at,List.length_append];by_cases h1:t<P.length;·rw[if_neg (by omega),if_neg (by omega),if_pos (by omega),if_pos (by omega),if_pos (by omega),if_pos h1,if_pos (by omega),if_pos (by omega),if_pos (by omega),if_pos h1]
 ·by_cases h2:t<P.length+X.length;·rw[if_pos (by omega)];rw[if_pos (by omega),if_neg (by omega),if_pos (by omega),if_pos (by omega),if_pos (by omega),if_neg (by omega)];congr 2;omega
  ·rw[if_neg (by omega)];by_cases h3:t<P.length+X.length+M.length;·rw[if_neg (by omega),if_pos (by omega),if_pos (by omega),if_neg (by omega),if_pos (by omega),if_pos (by omega),if_neg (by omega)];congr 2;omega
   ·by_cases h4:t<P.length+X.length+M.length+X.length;·rw[if_pos (by omega),if_pos (by omega),if_pos (by omega),if_pos (by omega),if_neg (by omega),if_pos (by omega),if_neg (by omega)];congr 2;omega
    ·rw[if_neg (by omega),if_neg (by omega),if_neg (by omega)];congr 2;omega
theorem swapRange_any(d:List Int)(blk off cap a b k:Nat)(fv:Value)(w:World)(h:IRow w blk off d)(hab:a+k≤b)(hb:b+k≤d.length)(hlen:d.length≤1099511627776):
 Calls prog 241 #[.slice (some ⟨blk,off,none⟩) d.length cap,Iq a,Iq b,Iq k,fv] w fun e w'=>e=.returned (.tuple #[])∧IRow w' blk off (swpN d a b k)∧w.grownBy w' (some blk):=by
 have HR:=qH<|h;go_enter func241,ntmps241;go_wp2;go_loopw[10] (fun i wr=>∃j:Nat,j≤k∧i=Iq j∧Hid (IRow wr blk off (swpN d a b j))∧Hid (w.grownBy wr (some blk))) (fun i _=>k-(intOf i).toNat);case atStart=>exact⟨0,Nat.zero_le _,rfl,HR,grown_refl _ _⟩
 case round=>
  obtain⟨j,hj,rfl,hrow,hgr⟩:=hrel;by_cases hlt:j<k
  ·have hlt':(j:Int)<(k:Int):=by omega
   have hl:=swpN_length d a b j;obtain⟨p,hp⟩:=nmd (a+j);obtain⟨q,hq⟩:=nmd (b+j);have hpi:(a:Int)+(j:Int)=(p:Int):=by omega
   have hqi:(b:Int)+(j:Int)=(q:Int):=by omega
   obtain⟨x,hx⟩:=nmd ((swpN d a b j)[p]?.getD 0);obtain⟨y,hy⟩:=nmd ((swpN d a b j)[q]?.getD 0);have c0:wr.cell? ⟨blk,off+p,none⟩=some (Iq x):=by rw[<-hx];exact(hrow.2 p (by omega)).1
   have f0:=(hrow.2 p (by omega)).2;have c1:wr.cell? ⟨blk,off+q,none⟩=some (Iq y):=by rw[<-hy];exact(hrow.2 q (by omega)).1
   have f1:=(hrow.2 q (by omega)).2;have HN:Hid (IRow ((wr.setCell ⟨blk,off+p,none⟩ (Iq y)).setCell ⟨blk,off+q,none⟩ (Iq x)) blk off (swpN d a b (j+1))):=by have:=irow_set2 hrow p q (by omega) (by omega);rw[hx,hy]at this;show IRow _ _ _ (swp (swpN d a b j) (a+j) (b+j));rw[hp,hq];exact this
   have HG:Hid (w.grownBy ((wr.setCell ⟨blk,off+p,none⟩ (Iq y)).setCell ⟨blk,off+q,none⟩ (Iq x)) (some blk)):=
    grown_trans hgr (grown_trans (grown_set _ _ _ _) (grown_set _ _ _ _));clear hl hx hy hp hq hrow hgr;go_wp2;go_big_region;go_wp2;go_roundw;case rel=>exact⟨j+1,by omega,by go_num,HN,grown_drew HG⟩
   case measure=>simp[intOf];omega
  ·have hlt':¬(j:Int)<(k:Int):=by omega
   obtain rfl:j=k:=by omega
   go_wp2;go_end0;exact⟨rfl,hrow,hgr⟩
theorem swap_list(P X M Y S:List Int)(d:List Int)(hd:d=P++X++M++Y++S)(n a b k:Nat)(hn:d.length=n)(ha:P.length=a)(hb:P.length+X.length+M.length=b)(hk:X.length=k)(hY:Y.length=k)(blk off cap:Nat)(fv:Value)(w:World)(h:IRow w blk off d)(hlen:n≤1099511627776):
 Calls prog 241 #[.slice (some ⟨blk,off,none⟩) n cap,Iq a,Iq b,Iq k,fv] w fun e w'=>e=.returned (.tuple #[])∧IRow w' blk off (P++Y++M++X++S)∧w.grownBy w' (some blk):=by subst hd hn ha hb hk;have:=swapRange_any (P++X++M++Y++S) blk off cap P.length (P.length+X.length+M.length) X.length fv w h (by omega) (by simp only[List.length_append];omega) hlen;rw[swpN_list P X M Y S (by omega)]at this;exact this
theorem rotate_any(P A B S:List Int)(blk off cap:Nat)(fv:Value)(w:World)(h:IRow w blk off (P++A++B++S))(hA:0<A.length)(hB:0<B.length)(hlen:(P++A++B++S).length≤1099511627776):
 Calls prog 232 #[.slice (some ⟨blk,off,none⟩) (P++A++B++S).length cap,Iq P.length,Iq ((P.length+A.length:Nat):Int),Iq ((P.length+A.length+B.length:Nat):Int),fv] w fun e w'=>e=.returned (.tuple #[])∧IRow w' blk off (P++B++A++S)∧w.grownBy w' (some blk):=by
 have HR:=qH<|h;obtain⟨n,hn⟩:=nmd ((P++A++B++S).length);obtain⟨m,hm⟩:=nmd (P.length+A.length);obtain⟨q,hq⟩:=nmd (P.length+A.length+B.length);have hql:q≤n:=by rw[<-hq,<-hn];simp only[List.length_append];omega
 have hma:(m:Int)-(P.length:Int)=(A.length:Int):=by omega
 have hqm:(q:Int)-(m:Int)=(B.length:Int):=by omega
 have HN:=qH<|hn;rw[hn]at hlen⊢;rw[hq,hm];have HM:=qH<|hm;go_enter func232,ntmps232;go_wp2;go_loopw[10,11] (fun x y wr=>∃(P' A' B' S':List Int),x=Iq A'.length∧y=Iq B'.length∧0<A'.length∧0<B'.length∧P'.length+A'.length≤m∧m≤P'.length+A'.length∧m+B'.length≤n∧Hid (P'++B'++A'++S'=P++B++A++S)∧Hid ((P'++A'++B'++S').length=n)∧Hid (IRow wr blk off (P'++A'++B'++S'))∧Hid (w.grownBy wr (some blk))) (fun x y _=>(intOf x).toNat+(intOf y).toNat);case atStart=>exact⟨P,A,B,S,rfl,rfl,hA,hB,by have:=HM.out;omega,by have:=HM.out;omega,by have:=HN.out;have:=HM.out;simp only[List.length_append]at*;omega,rfl,HN,HR,grown_refl _ _⟩
 case round=>
  obtain⟨P',A',B',S',rfl,rfl,hA',hB',hm1,hm2,hmB,hT,hL,hrow,hgr⟩:=hrel;obtain⟨i,hi⟩:=nmd A'.length;obtain⟨j,hj⟩:=nmd B'.length;have HI:=qH<|hi;have HJ:=qH<|hj;rw[hi]at hA' hm1 hm2⊢;rw[hj]at hB' hmB⊢;have hmi:(m:Int)-(i:Int)=(P'.length:Int):=by omega
  obtain⟨p,hp⟩:=nmd P'.length;have HP:=qH<|hp;rw[hp]at hmi hm1 hm2;by_cases h1:i=j
  ·subst h1;have C:Hid (Calls prog 241 #[.slice (some ⟨blk,off,none⟩) n cap,Iq p,Iq m,Iq i,fv] wr fun e w'=>e=.returned (.tuple #[])∧IRow w' blk off (P++B++A++S)∧wr.grownBy w' (some blk)):=by have:=swap_list P' A' [] B' S' (P'++A'++B'++S') (by simp) n p m i hL HP (by have:=HP.out;have:=HI.out;simp;omega) HI HJ blk off cap fv wr hrow hlen;rw[List.append_nil,hT.out]at this;exact this
   go_wp2_with fail;refine C.mono ?_;rintro e w2 ⟨rfl,r2,g2⟩;have HR2:=qH<|r2;have HG2:=qH<|grown_trans hgr g2;go_wp2;go_end0;exact⟨rfl,HR2,HG2⟩
  ·by_cases h2:j<i
   ·have h2':(j:Int)<(i:Int):=by omega
    have C:Hid (Calls prog 241 #[.slice (some ⟨blk,off,none⟩) n cap,Iq p,Iq m,Iq j,fv] wr fun e w'=>e=.returned (.tuple #[])∧IRow w' blk off ((P'++B')++A'.drop j++A'.take j++S')∧wr.grownBy w' (some blk)):=by
     have hA1:(A'.take j).length=j:=by have:=HI.out;rw[List.length_take];omega
     have hA2:(A'.drop j).length=i-j:=by have:=HI.out;rw[List.length_drop];omega
     exact swap_list P' (A'.take j) (A'.drop j) B' S' (P'++A'++B'++S') (by rw[List.append_assoc P' (A'.take j),List.take_append_drop]) n p m j hL HP (by have:=HP.out;omega) hA1 HJ blk off cap fv wr hrow hlen
    have hT':Hid ((P'++B')++A'.take j++A'.drop j++S'=P++B++A++S):=by show _=_;rw[<-hT.out,List.append_assoc (P'++B'),List.take_append_drop]
    have hL':Hid (((P'++B')++A'.drop j++A'.take j++S').length=n):=by show _=_;have:=hL.out;simp only[List.length_append,List.length_take,List.length_drop]at*;omega
    have hA1:Hid ((A'.take j).length=j):=by show _=_;have:=HI.out;rw[List.length_take];omega
    have hA2:Hid ((A'.drop j).length=i-j):=by show _=_;have:=HI.out;rw[List.length_drop];omega
    have hPB:Hid ((P'++B').length=p+j):=by show _=_;have:=HP.out;have:=HJ.out;rw[List.length_append];omega
    go_wp2_with fail;refine C.mono ?_;rintro e w2 ⟨rfl,r2,g2⟩;have HR2:=qH<|r2;have HG2:=qH<|grown_trans hgr g2;go_wp2;go_roundw;case rel=>exact⟨P'++B',A'.drop j,A'.take j,S',by rw[hA2.out];congr 1;omega,by rw[hA1.out],by rw[hA2.out];omega,by rw[hA1.out];omega,by rw[hA2.out,hPB.out];omega,by rw[hA2.out,hPB.out];omega,by rw[hA1.out];omega,hT',hL',HR2,HG2⟩
    case measure=>simp[intOf];omega
   ·have h2':¬(j:Int)<(i:Int):=by omega
    obtain⟨q2,hq2⟩:∃q2:Nat,m+j-i=q2:=⟨_,rfl⟩;have hq2i:(m:Int)+(j:Int)-(i:Int)=(q2:Int):=by omega
    have C:Hid (Calls prog 241 #[.slice (some ⟨blk,off,none⟩) n cap,Iq p,Iq q2,Iq i,fv] wr fun e w'=>e=.returned (.tuple #[])∧IRow w' blk off (P'++B'.drop (j-i)++B'.take (j-i)++(A'++S'))∧wr.grownBy w' (some blk)):=by
     have hA1:(B'.take (j-i)).length=j-i:=by have:=HJ.out;rw[List.length_take];omega
     have hA2:(B'.drop (j-i)).length=i:=by have:=HJ.out;rw[List.length_drop];omega
     have:=swap_list P' A' (B'.take (j-i)) (B'.drop (j-i)) S' (P'++A'++B'++S') (by rw[List.append_assoc (P'++A') (B'.take (j-i)),List.take_append_drop]) n p q2 i hL HP (by have:=HP.out;have:=HI.out;omega) HI hA2 blk off cap fv wr hrow hlen;rw[List.append_assoc (P'++B'.drop (j-i)++B'.take (j-i))]at this;exact this
    have hT':Hid (P'++B'.take (j-i)++B'.drop (j-i)++(A'++S')=P++B++A++S):=by show _=_;rw[<-hT.out,List.append_assoc P',List.take_append_drop];simp
    have hL':Hid ((P'++B'.drop (j-i)++B'.take (j-i)++(A'++S')).length=n):=by show _=_;have:=hL.out;simp only[List.length_append,List.length_take,List.length_drop]at*;omega
    have hA1:Hid ((B'.take (j-i)).length=j-i):=by show _=_;have:=HJ.out;rw[List.length_take];omega
    have hA2:Hid ((B'.drop (j-i)).length=i):=by show _=_;have:=HJ.out;rw[List.length_drop];omega
    go_wp2_with fail;refine C.mono ?_;rintro e w2 ⟨rfl,r2,g2⟩;have HR2:=qH<|r2;have HG2:=qH<|grown_trans hgr g2;go_wp2;go_roundw;case rel=>exact⟨P',B'.drop (j-i),B'.take (j-i),A'++S',by rw[hA2.out],by rw[hA1.out];congr 1;omega,by rw[hA2.out];omega,by rw[hA1.out];omega,by rw[hA2.out,HP.out];omega,by rw[hA2.out,HP.out];omega,by rw[hA1.out];omega,hT',hL',HR2,HG2⟩
    case measure=>simp[intOf];omega
end
end Go.Proofs.YtmbefonnkkhfgaaGreatDoor
