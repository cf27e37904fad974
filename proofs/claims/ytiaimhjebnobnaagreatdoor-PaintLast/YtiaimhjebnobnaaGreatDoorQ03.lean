import Derived.Test.YtiaimhjebnobnaaGreatDoorQ00
import Derived.Test.YtiaimhjebnobnaaGreatDoorRows
import Derived.WalkSpells
import Derived.WalkLawsBesides
import Derived.BigQuiet
set_option linter.all false
set_option maxRecDepth 100000
set_option maxHeartbeats 16000000
namespace Go.Proofs.YtiaimhjebnobnaaGreatDoor
open Go.RowKit Go.Proofs.Tryz
def bp(W:World)(blk off:Nat)(d:List Int):Prop:=blk<W.heap.size/\∀j,j<d.length->W.cell? (az blk (off+j))=some (Iq (d[j]?.getD 0))/\W.frozen? (az blk (off+j))=false
theorem ee(W:World)  r  :W.grownBy W r:=⟨rfl,rfl,rfl,ai _,fun _ _ _=>rfl⟩
theorem grown_trans{A B C:World}{b}(h:A.grownBy B (some b))(k:B.grownBy C (some b)):A.grownBy C (some b):=
 ⟨k.os.trans h.os,k.tape.trans h.tape,k.output.trans h.output,aO h.size k.size,fun i hi hn=>(k.block i (zz008 hi h.size) hn).trans (h.block i hi hn)⟩
theorem grown_below{A B}{b}(h:Bt A B):A.grownBy B (some b):=⟨h.os,h.tape,h.output,h.size,fun i hi _=>h.block i hi⟩
theorem fX(W:World)  blk i   v  :W.grownBy (W.setCell (az blk i) v) (some blk):=
 ⟨rfl,rfl,rfl,by simp,fun k _ hk=>heap_setCell_other _ _ _ _ (fun e=>hk (by rw[e]))⟩
theorem Dc(W:World)  n   r  :W.grownBy (W.drewN n) r:=⟨rfl,rfl,rfl,ai _,fun _ _ _=>rfl⟩
theorem bp.below{A B}{blk off}{d}(h:bp A blk off d)(hb:Bt A B):bp B blk off d:=
 ⟨zz008 h.1 hb.size,fun j hj=>⟨(hb.cell (p:=(az blk (off+j))) h.1).trans (h.2 j hj).1,(hb.frozen (p:=(az blk (off+j))) h.1).trans (h.2 j hj).2⟩⟩
theorem bp.drewN{A}{blk off}{d}(h:bp A blk off d)  n  :bp (A.drewN n) blk off d:=h
theorem gK{A B:World}{b}(h:A.grownBy B (some b)):A.grownBy B.drew (some b):=⟨h.os,h.tape,h.output,h.size,h.block⟩
def swp(d:List Int)(i j:Nat):List Int:=(d.set i (d[j]?.getD 0)).set j (d[i]?.getD 0)
theorem po  d   i j  :(swp d i j).length=d.length:=by simp[swp]
theorem Ib  d   i j k  (hi:i<d.length) (hj:j<d.length):(swp d i j)[k]?.getD 0=if k=j then d[i]?.getD 0 else if k=i then d[j]?.getD 0 else d[k]?.getD 0:=by grind[swp]
theorem nH{W}{blk off}{d}(h:bp W blk off d)  i j  (hi:i<d.length) (hj:j<d.length):
 bp ((W.setCell (az blk (off+i)) (Iq (d[j]?.getD 0))).setCell (az blk (off+j)) (Iq (d[i]?.getD 0))) blk off (swp d i j):=by
 refine⟨by simpa using h.1,fun k hk=>?_⟩;rw[po]at hk;simp only[ij];refine⟨?_,(h.2 k hk).2⟩;rw[Ib d i j k hi hj];have hc:=(h.2 k hk).1;by_cases h1:k=j
 ·subst h1;rw[if_pos rfl];refine oJ _ _ _ ?_;by_cases h2:i=k;·subst h2;rw[oJ _ _ _ (by rw[hc];rfl)];rfl
  ·rw[eu _ _ _ _ (fun e=>h2 (by grind)),hc];rfl
 ·rw[if_neg h1,eu _ _ _ _ (fun e=>h1 (by grind))];by_cases h2:k=i;·subst h2;rw[if_pos rfl];exact oJ _ _ _ (by rw[hc];rfl)
  ·rw[if_neg h2,eu _ _ _ _ (fun e=>h2 (by injection e with e1 e2;omega)),hc]
def tQ(d:List Int)(a b:Nat):Nat->List Int
 |0=>d
 |k+1=>swp (tQ d a b k) (a+k) (b+k)
theorem iZ  d   a b  :∀k,(tQ d a b k).length=d.length
 |0=>rfl
 |k+1=>by rw[tQ,po,iZ d a b k]
theorem Jw  d   a b  :∀k t,a+k<=b->b+k<=d.length->(tQ d a b k)[t]?.getD 0=if a<=t/\t<a+k then d[b+(t-a)]?.getD 0 else if b<=t/\t<b+k then d[a+(t-b)]?.getD 0 else d[t]?.getD 0
 |0,t,_,_=>by rw[if_neg (by omega),if_neg (by omega)];rfl
 |k+1,t,hab,hb=>by have ih:=fun t=>Jw d a b k t (by omega) (by omega);grind[iZ,swp,tQ,Ib]
theorem yK{d e:List Int}(hl:d.length=e.length)(h:∀t,t<d.length->d[t]?.getD 0=e[t]?.getD 0):d=e:=by apply List.ext_getElem hl;grind
theorem jw(x y:List Int)  t  :(x++y)[t]?.getD 0=if t<x.length then x[t]?.getD 0 else y[t-x.length]?.getD 0:=by grind
theorem yY  P X M Y S  (h:X.length=Y.length):tQ (P++X++M++Y++S) P.length (P.length+X.length+M.length) X.length=P++Y++M++X++S:=by refine yK (by grind[iZ]) fun t ht=>?_;grind[iZ,Jw,jw]
theorem xW(d:List Int)(blk off cap a b k:Nat)(fv:Value)(w:World)(h:bp w blk off d)(hab:a+k<=b)(hb:b+k<=d.length)(bY:d.length<=1099511627776):
 Cw 292 #[.slice (some (az blk off)) d.length cap,Iq a,Iq b,Iq k,fv] w fun e w'=>e=Rw (.tuple #[])/\bp w' blk off (tQ d a b k)/\w.grownBy w' (some blk):=by
 have HR:=qH<|h;go_enter func292,ntmps292;go_wp2;go_loopw[10] (fun i wr=>∃j:Nat,j<=k/\i=Iq j/\Hid (bp wr blk off (tQ d a b j))/\Hid (w.grownBy wr (some blk))) (fun i _=>k-(intOf i).toNat);case atStart=>exact⟨0,aZ _,rfl,HR,ee _ _⟩
 case round=>
  obtain⟨j,hj,rfl,hrow,fY⟩:=hrel;by_cases hlt:j<k
  ·have aN:(j:Int)<(k:Int):=by omega
   have hl:=iZ d a b j;obtain⟨p,hp⟩:=ag (a+j);obtain⟨q,hq⟩:=ag (b+j);have hpi:(a:Int)+(j:Int)=(p:Int):=by omega
   have hqi:(b:Int)+(j:Int)=(q:Int):=by omega
   obtain⟨x,hx⟩:=ag ((tQ d a b j)[p]?.getD 0);obtain⟨y,hy⟩:=ag ((tQ d a b j)[q]?.getD 0);have c0:wr.cell? (az blk (off+p))=some (Iq x):=by rw[<-hx];exact(hrow.2 p (by omega)).1
   have f0:=(hrow.2 p (by omega)).2;have c1:wr.cell? (az blk (off+q))=some (Iq y):=by rw[<-hy];exact(hrow.2 q (by omega)).1
   have f1:=(hrow.2 q (by omega)).2;have HN:Hid (bp ((wr.setCell (az blk (off+p)) (Iq y)).setCell (az blk (off+q)) (Iq x)) blk off (tQ d a b (j+1))):=by have:=nH hrow p q (by omega) (by omega);rw[hx,hy]at this;show bp _ _ _ (swp (tQ d a b j) (a+j) (b+j));rw[hp,hq];exact this
   have HG:Hid (w.grownBy ((wr.setCell (az blk (off+p)) (Iq y)).setCell (az blk (off+q)) (Iq x)) (some blk)):=
    grown_trans fY (grown_trans (fX _ _ _ _) (fX _ _ _ _));clear hl hx hy hp hq hrow fY;go_wp2;go_big_region;go_wp2;go_roundw;case rel=>exact⟨j+1,by omega,by go_num,HN,gK HG⟩
   case measure=>simp[intOf];omega
  ·have aN:¬(j:Int)<(k:Int):=by omega
   obtain rfl:j=k:=by omega
   go_wp2;go_end0;exact⟨rfl,hrow,fY⟩
theorem rV(P X M Y S:List Int)  d  (hd:d=P++X++M++Y++S)  n a b k  (hn:d.length=n) (ha:P.length=a) (hb:P.length+X.length+M.length=b) (hk:X.length=k) (hY:Y.length=k)  blk off cap   fv   w  (h:bp w blk off d) (bY:n<=1099511627776):
 Cw 292 #[.slice (some (az blk off)) n cap,Iq a,Iq b,Iq k,fv] w fun e w'=>e=Rw (.tuple #[])/\bp w' blk off (P++Y++M++X++S)/\w.grownBy w' (some blk):=by subst hd hn ha hb hk;have:=xW (P++X++M++Y++S) blk off cap P.length (P.length+X.length+M.length) X.length fv w h (by omega) (by grind) bY;grind[yY]
theorem Hp(P A B S:List Int)(blk off cap:Nat)(fv:Value)(w:World)(h:bp w blk off (P++A++B++S))(hA:0<A.length)(hB:0<B.length)(bY:(P++A++B++S).length<=1099511627776):
 Cw 283 #[.slice (some (az blk off)) (P++A++B++S).length cap,Iq P.length,Iq ((P.length+A.length:Nat):Int),Iq ((P.length+A.length+B.length:Nat):Int),fv] w fun e w'=>e=Rw (.tuple #[])/\bp w' blk off (P++B++A++S)/\w.grownBy w' (some blk):=by
 have HR:=qH<|h;obtain⟨n,hn⟩:=ag ((P++A++B++S).length);obtain⟨m,hm⟩:=ag (P.length+A.length);obtain⟨q,hq⟩:=ag (P.length+A.length+B.length);have hql:q<=n:=by rw[<-hq,<-hn];simp only[bm];omega
 have hma:(m:Int)-(P.length:Int)=(A.length:Int):=by omega
 have hqm:(q:Int)-(m:Int)=(B.length:Int):=by omega
 have HN:=qH<|hn;rw[hn]at bY⊢;rw[hq,hm];have HM:=qH<|hm;go_enter func283,ntmps283;go_wp2;go_loopw[10,11] (fun x y wr=>∃(P' A' B' S':List Int),x=Iq A'.length/\y=Iq B'.length/\0<A'.length/\0<B'.length/\P'.length+A'.length<=m/\m<=P'.length+A'.length/\m+B'.length<=n/\Hid (P'++B'++A'++S'=P++B++A++S)/\Hid ((P'++A'++B'++S').length=n)/\Hid (bp wr blk off (P'++A'++B'++S'))/\Hid (w.grownBy wr (some blk))) (fun x y _=>(intOf x).toNat+(intOf y).toNat);case atStart=>grind[ee]
 case round=>
  obtain⟨P',A',B',S',rfl,rfl,hA',hB',og,hm2,hmB,hT,hL,hrow,fY⟩:=hrel;obtain⟨i,hi⟩:=ag A'.length;obtain⟨j,hj⟩:=ag B'.length;have HI:=qH<|hi;have HJ:=qH<|hj;rw[hi]at hA' og hm2⊢;rw[hj]at hB' hmB⊢;have Lb:(m:Int)-(i:Int)=(P'.length:Int):=by omega
  obtain⟨p,hp⟩:=ag P'.length;have HP:=qH<|hp;rw[hp]at Lb og hm2;by_cases h1:i=j
  ·subst h1;have C:Hid (Cw 292 #[.slice (some (az blk off)) n cap,Iq p,Iq m,Iq i,fv] wr fun e w'=>e=Rw (.tuple #[])/\bp w' blk off (P++B++A++S)/\wr.grownBy w' (some blk)):=by have:=rV P' A' [] B' S' (P'++A'++B'++S') (by simp) n p m i hL HP (by grind) HI HJ blk off cap fv wr hrow bY;rw[lZ,hT.out]at this;exact this
   go_wp2_with fail;refine C.mono ?_;rintro e w2 ⟨rfl,r2,g2⟩;have HR2:=qH<|r2;have gX:=qH<|grown_trans fY g2;go_wp2;go_end0;exact⟨rfl,HR2,gX⟩
  ·by_cases h2:j<i
   ·have ue:(j:Int)<(i:Int):=by omega
    have C:Hid (Cw 292 #[.slice (some (az blk off)) n cap,Iq p,Iq m,Iq j,fv] wr fun e w'=>e=Rw (.tuple #[])/\bp w' blk off ((P'++B')++A'.drop j++A'.take j++S')/\wr.grownBy w' (some blk)):=by
     have hA1:(A'.take j).length=j:=by have:=HI.out;rw[cX];omega
     have IM:(A'.drop j).length=i-j:=by have:=HI.out;rw[dq];omega
     exact rV P' (A'.take j) (A'.drop j) B' S' (P'++A'++B'++S') (by simp_all) n p m j hL HP (by omega) hA1 HJ blk off cap fv wr hrow bY
    have hT':Hid ((P'++B')++A'.take j++A'.drop j++S'=P++B++A++S):=by show _=_;rw[<-hT.out,dt (P'++B'),gU]
    have hL':Hid (((P'++B')++A'.drop j++A'.take j++S').length=n):=by show _=_;have:=hL.out;simp only[bm,cX,dq]at*;omega
    have hA1:Hid ((A'.take j).length=j):=by show _=_;have:=HI.out;rw[cX];omega
    have IM:Hid ((A'.drop j).length=i-j):=by show _=_;have:=HI.out;rw[dq];omega
    have hPB:Hid ((P'++B').length=p+j):=by show _=_;have:=HP.out;have:=HJ.out;rw[bm];omega
    go_wp2_with fail;refine C.mono ?_;rintro e w2 ⟨rfl,r2,g2⟩;have HR2:=qH<|r2;have gX:=qH<|grown_trans fY g2;go_wp2;go_roundw;case rel=>exact⟨P'++B',A'.drop j,A'.take j,S',by grind,by rw[hA1.out],by grind,by grind,by grind,by grind,by grind,hT',hL',HR2,gX⟩
    case measure=>simp[intOf];omega
   ·have ue:¬(j:Int)<(i:Int):=by omega
    obtain⟨q2,vq⟩:∃q2:Nat,m+j-i=q2:=⟨_,rfl⟩;have zqo:(m:Int)+(j:Int)-(i:Int)=(q2:Int):=by omega
    have C:Hid (Cw 292 #[.slice (some (az blk off)) n cap,Iq p,Iq q2,Iq i,fv] wr fun e w'=>e=Rw (.tuple #[])/\bp w' blk off (P'++B'.drop (j-i)++B'.take (j-i)++(A'++S'))/\wr.grownBy w' (some blk)):=by
     have hA1:(B'.take (j-i)).length=j-i:=by have:=HJ.out;rw[cX];omega
     have IM:(B'.drop (j-i)).length=i:=by have:=HJ.out;rw[dq];omega
     have:=rV P' A' (B'.take (j-i)) (B'.drop (j-i)) S' (P'++A'++B'++S') (by simp_all) n p q2 i hL HP (by omega) HI IM blk off cap fv wr hrow bY;rw[dt (P'++B'.drop (j-i)++B'.take (j-i))]at this;exact this
    have hT':Hid (P'++B'.take (j-i)++B'.drop (j-i)++(A'++S')=P++B++A++S):=by show _=_;rw[<-hT.out,dt P',gU];simp
    have hL':Hid ((P'++B'.drop (j-i)++B'.take (j-i)++(A'++S')).length=n):=by show _=_;have:=hL.out;simp only[bm,cX,dq]at*;omega
    have hA1:Hid ((B'.take (j-i)).length=j-i):=by show _=_;have:=HJ.out;rw[cX];omega
    have IM:Hid ((B'.drop (j-i)).length=i):=by show _=_;have:=HJ.out;rw[dq];omega
    go_wp2_with fail;refine C.mono ?_;rintro e w2 ⟨rfl,r2,g2⟩;have HR2:=qH<|r2;have gX:=qH<|grown_trans fY g2;go_wp2;go_roundw;case rel=>exact⟨P',B'.drop (j-i),B'.take (j-i),A'++S',by rw[IM.out],by grind,by grind,by grind,by grind,by grind,by grind,hT',hL',HR2,gX⟩
    case measure=>simp[intOf];omega
theorem uN(w:World)  x y z   t  :∀j u,[x,y,z][j]?=some u->(w.alloc (.cells #[x,y,z] t)).cell? (((az w.heap.size 0):Addr).add j)=some u:=by
 intro j u h;have e:((az w.heap.size 0):Addr).add j=(az w.heap.size (0+j)):=by unfold Addr.add;split<;>simp_all
 simp_all
