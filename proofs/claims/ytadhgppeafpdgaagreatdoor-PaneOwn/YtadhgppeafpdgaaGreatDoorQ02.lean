import Derived.Test.YtadhgppeafpdgaaGreatDoorQ00
import Derived.Test.YtadhgppeafpdgaaGreatDoorRows
import Derived.WalkSpells
import Derived.WalkLawsBesides
import Derived.BigQuiet
set_option linter.all false
set_option maxRecDepth 100000
set_option maxHeartbeats 16000000
namespace Go.Proofs.YtadhgppeafpdgaaGreatDoor
open Go.RowKit Go.Proofs.Tryz
def aN(W:World)(blk off:Nat)(d:List Int):Prop:=blk<W.heap.size/\∀j,j<d.length->W.cell? (aq blk (off+j))=some (Iq (d[j]?.getD 0))/\W.frozen? (aq blk (off+j))=false
theorem dl(W:World)  r  :W.grownBy W r:=⟨rfl,rfl,rfl,ae _,fun _ _ _=>rfl⟩
theorem grown_trans{A B C:World}{b}(h:A.grownBy B (some b))(k:B.grownBy C (some b)):A.grownBy C (some b):=
 ⟨k.os.trans h.os,k.tape.trans h.tape,k.output.trans h.output,aH h.size k.size,fun i hi hn=>(k.block i (zz007 hi h.size) hn).trans (h.block i hi hn)⟩
theorem grown_below{A B}{b}(h:Bt A B):A.grownBy B (some b):=⟨h.os,h.tape,h.output,h.size,fun i hi _=>h.block i hi⟩
theorem eK(W:World)  blk i   v  :W.grownBy (W.setCell (aq blk i) v) (some blk):=
 ⟨rfl,rfl,rfl,by simp,fun k _ hk=>heap_setCell_other _ _ _ _ (fun e=>hk (by rw[e]))⟩
theorem BK(W:World)  n   r  :W.grownBy (W.drewN n) r:=⟨rfl,rfl,rfl,ae _,fun _ _ _=>rfl⟩
theorem aN.below{A B}{blk off}{d}(h:aN A blk off d)(hb:Bt A B):aN B blk off d:=
 ⟨zz007 h.1 hb.size,fun j hj=>⟨(hb.cell (p:=(aq blk (off+j))) h.1).trans (h.2 j hj).1,(hb.frozen (p:=(aq blk (off+j))) h.1).trans (h.2 j hj).2⟩⟩
theorem aN.drewN{A}{blk off}{d}(h:aN A blk off d)  n  :aN (A.drewN n) blk off d:=h
theorem fx{A B:World}{b}(h:A.grownBy B (some b)):A.grownBy B.drew (some b):=⟨h.os,h.tape,h.output,h.size,h.block⟩
def swp(d:List Int)(i j:Nat):List Int:=(d.set i (d[j]?.getD 0)).set j (d[i]?.getD 0)
theorem od  d   i j  :(swp d i j).length=d.length:=by simp[swp]
theorem Gj  d   i j k  (hi:i<d.length) (hj:j<d.length):(swp d i j)[k]?.getD 0=if k=j then d[i]?.getD 0 else if k=i then d[j]?.getD 0 else d[k]?.getD 0:=by grind[swp]
theorem mz{W}{blk off}{d}(h:aN W blk off d)  i j  (hi:i<d.length) (hj:j<d.length):
 aN ((W.setCell (aq blk (off+i)) (Iq (d[j]?.getD 0))).setCell (aq blk (off+j)) (Iq (d[i]?.getD 0))) blk off (swp d i j):=by
 refine⟨by simpa using h.1,fun k hk=>?_⟩;rw[od]at hk;simp only[kO];refine⟨?_,(h.2 k hk).2⟩;rw[Gj d i j k hi hj];have hc:=(h.2 k hk).1;by_cases h1:k=j
 ·subst h1;rw[if_pos rfl];refine rO _ _ _ ?_;by_cases h2:i=k;·subst h2;rw[rO _ _ _ (by rw[hc];rfl)];rfl
  ·rw[dy _ _ _ _ (fun e=>h2 (by grind)),hc];rfl
 ·rw[if_neg h1,dy _ _ _ _ (fun e=>h1 (by grind))];by_cases h2:k=i;·subst h2;rw[if_pos rfl];exact rO _ _ _ (by rw[hc];rfl)
  ·rw[if_neg h2,dy _ _ _ _ (fun e=>h2 (by injection e with e1 e2;omega)),hc]
def sI(d:List Int)(a b:Nat):Nat->List Int
 |0=>d
 |k+1=>swp (sI d a b k) (a+k) (b+k)
theorem gY  d   a b  :∀k,(sI d a b k).length=d.length
 |0=>rfl
 |k+1=>by rw[sI,od,gY d a b k]
theorem IF  d   a b  :∀k t,a+k<=b->b+k<=d.length->(sI d a b k)[t]?.getD 0=if a<=t/\t<a+k then d[b+(t-a)]?.getD 0 else if b<=t/\t<b+k then d[a+(t-b)]?.getD 0 else d[t]?.getD 0
 |0,t,_,_=>by rw[if_neg (by omega),if_neg (by omega)];rfl
 |k+1,t,Hn,hb=>by have ih:=fun t=>IF d a b k t (by omega) (by omega);grind[gY,swp,sI,Gj]
theorem xN{d e:List Int}(hl:d.length=e.length)(h:∀t,t<d.length->d[t]?.getD 0=e[t]?.getD 0):d=e:=by apply List.ext_getElem hl;grind
theorem iJ(x y:List Int)  t  :(x++y)[t]?.getD 0=if t<x.length then x[t]?.getD 0 else y[t-x.length]?.getD 0:=by grind
theorem x_  P X M Y S  (h:X.length=Y.length):sI (P++X++M++Y++S) P.length (P.length+X.length+M.length) X.length=P++Y++M++X++S:=by refine xN (by grind[gY]) fun t ht=>?_;grind[gY,IF,iJ]
theorem w_(d:List Int)(blk off cap a b k:Nat)(fv:Value)(w:World)(h:aN w blk off d)(Hn:a+k<=b)(hb:b+k<=d.length)(aO:d.length<=1099511627776):
 Cw 291 #[.slice (some (aq blk off)) d.length cap,Iq a,Iq b,Iq k,fv] w fun e w'=>e=Rw (.tuple #[])/\aN w' blk off (sI d a b k)/\w.grownBy w' (some blk):=by
 have HR:=qH<|h;go_enter func291,ntmps291;go_wp2;go_loopw[10] (fun i wr=>∃j:Nat,j<=k/\i=Iq j/\Hid (aN wr blk off (sI d a b j))/\Hid (w.grownBy wr (some blk))) (fun i _=>k-(intOf i).toNat);case atStart=>exact⟨0,bm _,rfl,HR,dl _ _⟩
 case round=>
  obtain⟨j,hj,rfl,hrow,fd⟩:=hrel;by_cases hlt:j<k
  ·have aR:(j:Int)<(k:Int):=by omega
   have hl:=gY d a b j;obtain⟨p,hp⟩:=af (a+j);obtain⟨q,hq⟩:=af (b+j);have hpi:(a:Int)+(j:Int)=(p:Int):=by omega
   have hqi:(b:Int)+(j:Int)=(q:Int):=by omega
   obtain⟨x,hx⟩:=af ((sI d a b j)[p]?.getD 0);obtain⟨y,hy⟩:=af ((sI d a b j)[q]?.getD 0);have c0:wr.cell? (aq blk (off+p))=some (Iq x):=by rw[<-hx];exact(hrow.2 p (by omega)).1
   have f0:=(hrow.2 p (by omega)).2;have c1:wr.cell? (aq blk (off+q))=some (Iq y):=by rw[<-hy];exact(hrow.2 q (by omega)).1
   have f1:=(hrow.2 q (by omega)).2;have HN:Hid (aN ((wr.setCell (aq blk (off+p)) (Iq y)).setCell (aq blk (off+q)) (Iq x)) blk off (sI d a b (j+1))):=by have:=mz hrow p q (by omega) (by omega);rw[hx,hy]at this;show aN _ _ _ (swp (sI d a b j) (a+j) (b+j));rw[hp,hq];exact this
   have HG:Hid (w.grownBy ((wr.setCell (aq blk (off+p)) (Iq y)).setCell (aq blk (off+q)) (Iq x)) (some blk)):=
    grown_trans fd (grown_trans (eK _ _ _ _) (eK _ _ _ _));clear hl hx hy hp hq hrow fd;go_wp2;go_big_region;go_wp2;go_roundw;case rel=>exact⟨j+1,by omega,by go_num,HN,fx HG⟩
   case measure=>simp[intOf];omega
  ·have aR:¬(j:Int)<(k:Int):=by omega
   obtain rfl:j=k:=by omega
   go_wp2;go_end0;exact⟨rfl,hrow,fd⟩
theorem qQ(P X M Y S:List Int)  d  (hd:d=P++X++M++Y++S)  n a b k  (hn:d.length=n) (ha:P.length=a) (hb:P.length+X.length+M.length=b) (hk:X.length=k) (hY:Y.length=k)  blk off cap   fv   w  (h:aN w blk off d) (aO:n<=1099511627776):
 Cw 291 #[.slice (some (aq blk off)) n cap,Iq a,Iq b,Iq k,fv] w fun e w'=>e=Rw (.tuple #[])/\aN w' blk off (P++Y++M++X++S)/\w.grownBy w' (some blk):=by subst hd hn ha hb hk;have:=w_ (P++X++M++Y++S) blk off cap P.length (P.length+X.length+M.length) X.length fv w h (by omega) (by grind) aO;grind[x_]
theorem F5(P A B S:List Int)(blk off cap:Nat)(fv:Value)(w:World)(h:aN w blk off (P++A++B++S))(hA:0<A.length)(hB:0<B.length)(aO:(P++A++B++S).length<=1099511627776):
 Cw 290 #[.slice (some (aq blk off)) (P++A++B++S).length cap,Iq P.length,Iq ((P.length+A.length:Nat):Int),Iq ((P.length+A.length+B.length:Nat):Int),fv] w fun e w'=>e=Rw (.tuple #[])/\aN w' blk off (P++B++A++S)/\w.grownBy w' (some blk):=by
 have HR:=qH<|h;obtain⟨n,hn⟩:=af ((P++A++B++S).length);obtain⟨m,hm⟩:=af (P.length+A.length);obtain⟨q,hq⟩:=af (P.length+A.length+B.length);have hql:q<=n:=by rw[<-hq,<-hn];simp only[aI];omega
 have hma:(m:Int)-(P.length:Int)=(A.length:Int):=by omega
 have hqm:(q:Int)-(m:Int)=(B.length:Int):=by omega
 have HN:=qH<|hn;rw[hn]at aO⊢;rw[hq,hm];have HM:=qH<|hm;go_enter func290,ntmps290;go_wp2;go_loopw[10,11] (fun x y wr=>∃(P' A' B' S':List Int),x=Iq A'.length/\y=Iq B'.length/\0<A'.length/\0<B'.length/\P'.length+A'.length<=m/\m<=P'.length+A'.length/\m+B'.length<=n/\Hid (P'++B'++A'++S'=P++B++A++S)/\Hid ((P'++A'++B'++S').length=n)/\Hid (aN wr blk off (P'++A'++B'++S'))/\Hid (w.grownBy wr (some blk))) (fun x y _=>(intOf x).toNat+(intOf y).toNat);case atStart=>grind[dl]
 case round=>
  obtain⟨P',A',B',S',rfl,rfl,hA',hB',rj,hm2,hmB,hT,hL,hrow,fd⟩:=hrel;obtain⟨i,hi⟩:=af A'.length;obtain⟨j,hj⟩:=af B'.length;have HI:=qH<|hi;have HJ:=qH<|hj;rw[hi]at hA' rj hm2⊢;rw[hj]at hB' hmB⊢;have TE:(m:Int)-(i:Int)=(P'.length:Int):=by omega
  obtain⟨p,hp⟩:=af P'.length;have HP:=qH<|hp;rw[hp]at TE rj hm2;by_cases h1:i=j
  ·subst h1;have C:Hid (Cw 291 #[.slice (some (aq blk off)) n cap,Iq p,Iq m,Iq i,fv] wr fun e w'=>e=Rw (.tuple #[])/\aN w' blk off (P++B++A++S)/\wr.grownBy w' (some blk)):=by have:=qQ P' A' [] B' S' (P'++A'++B'++S') (by simp) n p m i hL HP (by grind) HI HJ blk off cap fv wr hrow aO;rw[ik,hT.out]at this;exact this
   go_wp2_with fail;refine C.mono ?_;rintro e w2 ⟨rfl,r2,g2⟩;have HR2:=qH<|r2;have qT:=qH<|grown_trans fd g2;go_wp2;go_end0;exact⟨rfl,HR2,qT⟩
  ·by_cases h2:j<i
   ·have zn:(j:Int)<(i:Int):=by omega
    have C:Hid (Cw 291 #[.slice (some (aq blk off)) n cap,Iq p,Iq m,Iq j,fv] wr fun e w'=>e=Rw (.tuple #[])/\aN w' blk off ((P'++B')++A'.drop j++A'.take j++S')/\wr.grownBy w' (some blk)):=by
     have hA1:(A'.take j).length=j:=by have:=HI.out;rw[bU];omega
     have LX:(A'.drop j).length=i-j:=by have:=HI.out;rw[dL];omega
     exact qQ P' (A'.take j) (A'.drop j) B' S' (P'++A'++B'++S') (by simp_all) n p m j hL HP (by omega) hA1 HJ blk off cap fv wr hrow aO
    have hT':Hid ((P'++B')++A'.take j++A'.drop j++S'=P++B++A++S):=by show _=_;rw[<-hT.out,bY (P'++B'),gy]
    have hL':Hid (((P'++B')++A'.drop j++A'.take j++S').length=n):=by show _=_;have:=hL.out;simp only[aI,bU,dL]at*;omega
    have hA1:Hid ((A'.take j).length=j):=by show _=_;have:=HI.out;rw[bU];omega
    have LX:Hid ((A'.drop j).length=i-j):=by show _=_;have:=HI.out;rw[dL];omega
    have hPB:Hid ((P'++B').length=p+j):=by show _=_;have:=HP.out;have:=HJ.out;rw[aI];omega
    go_wp2_with fail;refine C.mono ?_;rintro e w2 ⟨rfl,r2,g2⟩;have HR2:=qH<|r2;have qT:=qH<|grown_trans fd g2;go_wp2;go_roundw;case rel=>exact⟨P'++B',A'.drop j,A'.take j,S',by grind,by rw[hA1.out],by grind,by grind,by grind,by grind,by grind,hT',hL',HR2,qT⟩
    case measure=>simp[intOf];omega
   ·have zn:¬(j:Int)<(i:Int):=by omega
    obtain⟨q2,nT⟩:∃q2:Nat,m+j-i=q2:=⟨_,rfl⟩;have zoZ:(m:Int)+(j:Int)-(i:Int)=(q2:Int):=by omega
    have C:Hid (Cw 291 #[.slice (some (aq blk off)) n cap,Iq p,Iq q2,Iq i,fv] wr fun e w'=>e=Rw (.tuple #[])/\aN w' blk off (P'++B'.drop (j-i)++B'.take (j-i)++(A'++S'))/\wr.grownBy w' (some blk)):=by
     have hA1:(B'.take (j-i)).length=j-i:=by have:=HJ.out;rw[bU];omega
     have LX:(B'.drop (j-i)).length=i:=by have:=HJ.out;rw[dL];omega
     have:=qQ P' A' (B'.take (j-i)) (B'.drop (j-i)) S' (P'++A'++B'++S') (by simp_all) n p q2 i hL HP (by omega) HI LX blk off cap fv wr hrow aO;rw[bY (P'++B'.drop (j-i)++B'.take (j-i))]at this;exact this
    have hT':Hid (P'++B'.take (j-i)++B'.drop (j-i)++(A'++S')=P++B++A++S):=by show _=_;rw[<-hT.out,bY P',gy];simp
    have hL':Hid ((P'++B'.drop (j-i)++B'.take (j-i)++(A'++S')).length=n):=by show _=_;have:=hL.out;simp only[aI,bU,dL]at*;omega
    have hA1:Hid ((B'.take (j-i)).length=j-i):=by show _=_;have:=HJ.out;rw[bU];omega
    have LX:Hid ((B'.drop (j-i)).length=i):=by show _=_;have:=HJ.out;rw[dL];omega
    go_wp2_with fail;refine C.mono ?_;rintro e w2 ⟨rfl,r2,g2⟩;have HR2:=qH<|r2;have qT:=qH<|grown_trans fd g2;go_wp2;go_roundw;case rel=>exact⟨P',B'.drop (j-i),B'.take (j-i),A'++S',by rw[LX.out],by grind,by grind,by grind,by grind,by grind,by grind,hT',hL',HR2,qT⟩
    case measure=>simp[intOf];omega
def dS(s:ByteArray)(i:Nat):Nat:=if h:i<s.size then s[i].toNat else 256
theorem km{s}{i}(h:i<s.size):dS s i=s[i].toNat:=by grind[dS]
theorem ir{s}{i}(h:¬i<s.size):dS s i=256:=by grind[dS]
theorem Nn{s}{i}(h:i<s.size):dS s i<256:=by rw[km h];exact UInt8.toNat_lt _
def pw(p:Nat->Bool)(s:ByteArray):Nat->Nat->Nat
 |0,i=>i
 |f+1,i=>if p (dS s i)then pw p s f (i+1)else i
def run(p:Nat->Bool)(s:ByteArray)(i:Nat):Nat:=pw p s (s.size-i) i
theorem vk{p}{s}{i}(hi:i<s.size)(h:p (dS s i)=true):run p s i=run p s (i+1):=by unfold run;obtain⟨f,hf⟩:∃f,s.size-i=f+1:=⟨s.size-i-1,by omega⟩;rw[hf,pw,if_pos h,show s.size-(i+1)=f by omega]
theorem vm{p}{s}{i}(h:p (dS s i)=false):run p s i=i:=by
 unfold run;match s.size-i with
 |0=>rfl
 |f+1=>rw[pw,h];rfl
theorem IB{p}{s}{i}(h:¬i<s.size):run p s i=i:=by unfold run;rw[show s.size-i=0 by omega];rfl
theorem zT  p   s  :∀f i,i<=pw p s f i/\pw p s f i<=i+f
 |0,i=>⟨ae _,ae _⟩
 |f+1,i=>by have:=zT p s f (i+1);grind[pw]
theorem oa  p   s   i  :i<=run p s i:=(zT p s _ i).1
theorem lM  p   s   i  (hi:i<=s.size):run p s i<=s.size:=by grind[zT,run]
theorem Dx(p:Nat->Bool)(hp:p 256=false)  s  :∀f i,s.size-i<=f->p (dS s (pw p s f i))=false
 |0,i,h=>by grind[pw,ir]
 |f+1,i,h=>by
  rw[pw];by_cases c:p (dS s i)=true;·rw[if_pos c];exact Dx p hp s f (i+1) (by omega)
  grind
theorem UY{p:Nat->Bool}(hp:p 256=false)  s   i  :p (dS s (run p s i))=false:=Dx p hp s _ i (ae _)
def blank(x:Nat):Bool:=x==32||x==10
def aB(x:Nat):Bool:=decide (97<=x)&&decide (x<=122)
def aP(x:Nat):Bool:=decide (48<=x)&&decide (x<=57)
def sk(s:ByteArray)(i:Nat):Nat:=run blank s i
theorem rM  s   i  :i<=sk s i:=oa _ _ _
theorem ng  s   i  (h:i<=s.size):sk s i<=s.size:=lM _ _ _ h
theorem DD  s   i  :sk s (sk s i)=sk s i:=vm (UY (by rfl) s i)
structure RS(W:World)(rb:Nat)(s:ByteArray)(i:Nat)(lv:Value)(bad er at_ RG:Int):Prop where
 lt:rb<W.heap.size
 c0:W.cell? (aq rb 0)=some (.string s)
 c1:W.cell? (aq rb 1)=some (Iq (i:Int))
 c2:W.cell? (aq rb 2)=some lv
 c3:W.cell? (aq rb 3)=some (Iq bad)
 c4:W.cell? (aq rb 4)=some (Iq er)
 c5:W.cell? (aq rb 5)=some (Iq at_)
 c6:W.cell? (aq rb 6)=some (Iq RG)
 fz:∀j,W.frozen? (aq rb j)=false
theorem RS.below{W W'}{rb}{s}{i}{lv}{bad er at_ RG}(h:RS W rb s i lv bad er at_ RG)(hb:Bt W W'):RS W' rb s i lv bad er at_ RG:=
 have k:∀j v,W.cell? (aq rb j)=some v->W'.cell? (aq rb j)=some v:=fun j v e=>(hb.cell (p:=(aq rb j)) h.lt).trans e
 ⟨zz007 h.lt hb.size,k _ _ h.c0,k _ _ h.c1,k _ _ h.c2,k _ _ h.c3,k _ _ h.c4,k _ _ h.c5,k _ _ h.c6,fun j=>(hb.frozen (p:=(aq rb j)) h.lt).trans (h.fz j)⟩
theorem RS.drewN{W}{rb}{s}{i}{lv}{bad er at_ RG}(h:RS W rb s i lv bad er at_ RG)  n  :RS (W.drewN n) rb s i lv bad er at_ RG:=
 ⟨h.lt,h.c0,h.c1,h.c2,h.c3,h.c4,h.c5,h.c6,h.fz⟩
theorem bN{W:World}{rb j k}{v u}(hn:j≠k)(h:W.cell? (aq rb j)=some u):(W.setCell (aq rb k) v).cell? (aq rb j)=some u:=by rw[dy _ _ _ _ (fun e=>hn (by grind))];exact h
theorem pu{W:World}{rb k}{v u}(h:W.cell? (aq rb k)=some u):(W.setCell (aq rb k) v).cell? (aq rb k)=some v:=
 rO _ _ _ (by grind)
theorem RS.setI{W}{rb}{s}{i}{lv}{bad er at_ RG}(h:RS W rb s i lv bad er at_ RG)(i':Nat):RS (W.setCell (aq rb 1) (Iq (i':Int))) rb s i' lv bad er at_ RG:=
 ⟨by simpa using h.lt,bN (by omega) h.c0,pu h.c1,bN (by omega) h.c2,bN (by omega) h.c3,bN (by omega) h.c4,bN (by omega) h.c5,bN (by omega) h.c6,fun j=>by rw[kO];exact h.fz j⟩
theorem zl(W:World)  b  :W.grownBy W (some b):=⟨rfl,rfl,rfl,ae _,fun _ _ _=>rfl⟩
theorem gr_trans{A B C:World}{b}(h:A.grownBy B (some b))(k:B.grownBy C (some b)):A.grownBy C (some b):=
 ⟨k.os.trans h.os,k.tape.trans h.tape,k.output.trans h.output,aH h.size k.size,fun i hi hn=>(k.block i (zz007 hi h.size) hn).trans (h.block i hi hn)⟩
theorem fw(W:World)  b i   v  :W.grownBy (W.setCell (aq b i) v) (some b):=
 ⟨rfl,rfl,rfl,by simp,fun k _ hk=>heap_setCell_other _ _ _ _ (fun e=>hk (by rw[e]))⟩
theorem cN(W:World)  n b  :W.grownBy (W.drewN n) (some b):=⟨rfl,rfl,rfl,ae _,fun _ _ _=>rfl⟩
theorem lr{A B}{b}(h:Bt A B):A.grownBy B (some b):=⟨h.os,h.tape,h.output,h.size,fun i hi _=>h.block i hi⟩
def a_(s:ByteArray)(i:Nat)(c:Nat):Bool:=dS s (sk s i)==c
def aD(s:ByteArray)(i:Nat)(c:Nat):Nat:=if dS s (sk s i)=c then sk s i+1 else sk s i
def tj(kids:Nat->List Nat):Nat->Nat->List Nat
 |0,_=>[]
 |f+1,k=>k::(kids k).flatMap (tj kids f)
def DU(up:Nat->Int):Nat->Int->Int
 |0,x=>x
 |t+1,x=>up (DU up t x).toNat
structure yF(n:Nat)(kids:Nat->List Nat)(up:Nat->Int):Prop where
 kid:∀i c,i<n->c∈kids i->i<c/\c<n/\up c=(i:Int)
 nd:∀i,i<n->(kids i).Nodup
 upl:∀i,i<n->up i<(i:Int)
 lo:∀i,i<n->-1<=up i
section
variable{n:Nat} {kids:Nat->List Nat} {up:Nat->Int}
theorem Ac  s   x  :∀t,DU up (s+t) x=DU up t (DU up s x)
 |0=>rfl
 |t+1=>by show up (DU up (s+t) x).toNat=up (DU up t (DU up s x)).toNat;rw[Ac s x t]
theorem QK(h:yF n kids up)(hn:0<n):∀  t  (x:Int),-1<=x->x<n->-1<=DU up t x/\DU up t x<=x
 |0,x,h1,h2=>⟨h1,lV _⟩
 |t+1,x,h1,h2=>by
  obtain⟨k1,k2⟩:=QK h hn t x h1 h2;show-1<=up (DU up t x).toNat/\up (DU up t x).toNat<=x;have hl:(DU up t x).toNat<n:=by omega
  have a1:=h.lo _ hl;have a2:=h.upl _ hl;omega
theorem vB(h:yF n kids up):∀  f k,k<n->∀j,j∈tj kids f k->k<=j/\j<n/\∃t,DU up t (j:Int)=(k:Int)
 |0,k,hk,j,hj=>by cases hj
 |f+1,k,hk,j,hj=>by
  rcases ja.1 hj with e|hj;·subst e;exact⟨ae _,hk,0,rfl⟩
  ·obtain⟨c,hc,hj⟩:=List.mem_flatMap.1 hj;obtain⟨c1,c2,c3⟩:=h.kid k c hk hc;obtain⟨d1,d2,t,ht⟩:=vB h f c c2 j hj;refine⟨by omega,d2,t+1,?_⟩;grind[DU]
theorem LF(h:yF n kids up){f k c d}(hk:k<n)(hc:c∈kids k)(hd:d∈kids k)(Wj:c≠d){j}(h1:j∈tj kids f c)(h2:j∈tj kids f d):False:=by
 obtain⟨c1,c2,c3⟩:=h.kid k c hk hc;obtain⟨d1,d2,d3⟩:=h.kid k d hk hd;obtain⟨_,_,s,hs⟩:=vB h f c c2 j h1;obtain⟨_,_,t,ht⟩:=vB h f d d2 j h2;have hn:0<n:=by omega
 have key:∀(c d:Nat) (s t:Nat),c≠d->up c=(k:Int)->k<d->c<n->DU up s (j:Int)=(c:Int)->DU up t (j:Int)=(d:Int)->s<=t->False:=fun c d s t Wj hup hkd Z8 hs ht uy=>by
  obtain⟨r,rfl⟩:∃r,t=s+r:=⟨t-s,by omega⟩;rw[Ac,hs]at ht;cases r with
  |zero=>exact Wj (QW ht)
  |succ r=>
   rw[vF r 1,Ac]at ht;have e:DU up 1 (c:Int)=(k:Int):=by show up ((c:Int)).toNat=_;exact hup
   rw[e]at ht;have:=(QK h hn r (k:Int) (by omega) (by omega)).2;omega
 grind
theorem ya(h:yF n kids up):∀  f k,k<n->(tj kids f k).Nodup
 |0,k,hk=>List.nodup_nil
 |f+1,k,hk=>by
  show(k::(kids k).flatMap (tj kids f)).Nodup;refine List.nodup_cons.2 ⟨fun q=>?_,?_⟩;·obtain⟨c,hc,hj⟩:=List.mem_flatMap.1 q;obtain⟨c1,c2,c3⟩:=h.kid k c hk hc;have:=(vB h f c c2 k hj).1;omega
  ·have key:∀ks:List Nat,(∀c∈ks,c∈kids k)->ks.Nodup->(ks.flatMap (tj kids f)).Nodup:=by
    intro ks;induction ks with
    |nil=>grind
    |cons c ks ih=>intro h1 h2;rw[List.flatMap_cons];obtain⟨m1,m2⟩:=List.nodup_cons.1 h2;have hc:=h1 c (nj ..);obtain⟨c1,c2,c3⟩:=h.kid k c hk hc;refine QX.2 ⟨ya h f c c2,ih (fun x hx=>h1 x (yf _ hx)) m2,fun a ha b hb e=>?_⟩;grind[LF]
   exact key (kids k) (fun _ hc=>hc) (h.nd k hk)
theorem mG:∀  n  (l:List Nat),l.Nodup->(∀x∈l,x<n)->l.length<=n
 |0,l,_,h=>by
  cases l with
  |nil=>grind
  |cons a l=>exact absurd (h a (nj ..)) (by omega)
 |n+1,l,hd,h=>by
  by_cases hm:n∈l;·have h1:=List.length_erase_of_mem hm;have h2:=mG n (l.erase n) (hd.erase n) (fun x hx=>by grind);omega
  ·have:=mG n l hd (fun x hx=>by grind);omega
theorem Vr(h:yF n kids up)  f k  (hk:k<n):(tj kids f k).length<=n:=mG n _ (ya h f k hk) fun x hx=>(vB h f k hk x hx).2.1
end
theorem Iy:∀ks:List Nat,(∀k c d,ks[k]?=some c->ks[k+1]?=some d->c<d)->ks.Pairwise (·<·)
 |[],_=>.nil
 |[x],_=>by simp
 |x::y::r,h=>by
  have ih:=Iy (y::r) (fun k c d h1 h2=>h (k+1) c d h1 h2);have Ay:=h 0 x y rfl rfl;refine List.Pairwise.cons (fun z hz=>?_) ih;rcases ja.1 hz with e|hz;·omega
  ·have:=List.rel_of_pairwise_cons ih hz;omega
theorem F4{ks:List Nat}(h:∀k c d,ks[k]?=some c->ks[k+1]?=some d->c<d):ks.Nodup:=
 (Iy ks h).imp (fun h e=>by omega)
def Pv(s:ByteArray)(i c:Nat)(bad:Int):Int:=if a_ s i c then bad else(sk s i:Int)
def wrE(er at_ e a:Int):Int:=if at_<0\/a<at_ then e else er
def wrA(at_ a:Int):Int:=if at_<0\/a<at_ then a else at_
def QQ(s:ByteArray)(i:Nat)(bad:Int):Int:=if run aB s (sk s i)=sk s i then(sk s i:Int)else bad
theorem Gh{a b:ByteArray}(h:¬a=b):(a.toList==b.toList)=false:=by rw[beq_eq_false_iff_ne];intro e;rw[ByteArray.toList_eq,ByteArray.toList_eq]at e;exact h (ju (Array.toList_inj.1 e))
def aJ:List ByteArray->ByteArray->Nat->Int
 |[],_,_=>-1
 |a::r,x,k=>if a=x then(k:Int)else aJ r x (k+1)
theorem oF  x  :∀  ws   k,aJ ws x k=-1\/((k:Int)<=aJ ws x k/\aJ ws x k<(k:Int)+ws.length)
 |[],k=>.inl rfl
 |a::r,k=>by
  unfold aJ;by_cases e:a=x;·grind
  ·simp only[e,if_false];rcases oF x r (k+1)with h|h;all_goals grind
def dv(s:ByteArray)(j:Nat):Nat->Int
 |0=>0
 |c+1=>if c<6 then 10*dv s j c+((dS s (j+c):Int)-48)else dv s j c
theorem Bn  s   j  :∀c,(∀t,t<c->48<=dS s (j+t)/\dS s (j+t)<=57)->0<=dv s j c/\dv s j c<=999999/\(c<=5->dv s j c<=99999)/\(c<=4->dv s j c<=9999)/\(c<=3->dv s j c<=999)/\(c<=2->dv s j c<=99)/\(c<=1->dv s j c<=9)/\(c=0->dv s j c=0)
 |0,_=>by simp[dv]
 |c+1,h=>by have ih:=Bn s j c (fun t ht=>h t (by omega));grind[dv]
theorem tf{p}  s  :∀f i t,pw p s f i>i+t->p (dS s (i+t))=true
 |0,i,t,h=>by grind[pw]
 |f+1,i,t,h=>by
  rw[pw]at h;by_cases c:p (dS s i)=true;·rw[if_pos c]at h;match t with
   |0=>exact c
   |t+1=>have:=tf (p:=p) s f (i+1) t (by omega);grind
  grind
def Uy(s:ByteArray)(j k:Nat)(bad:Int):Int:=if k=j\/j+6<k\/(j+1<k/\dS s j=48)then(j:Int)else bad
def qF(s:ByteArray):Nat->Nat->List UInt8->Except Nat (Nat×List UInt8)
 |0,p,_=>.error p
 |f+1,p,acc=>
  if dS s p=256 then .error p
  else if dS s p=34 then .ok (p+1,acc)
  else if dS s p=92 then
   if dS s (p+1)=34\/dS s (p+1)=92 then qF s f (p+2) (acc++[(dS s (p+1)).toUInt8])
   else if dS s (p+1)=110 then qF s f (p+2) (acc++[10])
   else .error (p+1)
  else qF s f (p+1) (acc++[(dS s p).toUInt8])
def mS(s:ByteArray)(i:Nat):Except Nat (Nat×List UInt8):=if a_ s i 34 then qF s (s.size+2) (aD s i 34) []else .error (sk s i)
def eh:List ByteArray:=[⟨#[114,111,119]⟩,⟨#[99,111,108]⟩,⟨#[115,116,97,99,107]⟩,⟨#[98,111,120]⟩,⟨#[115,99,114,111,108,108]⟩,⟨#[116,101,120,116]⟩,⟨#[103,97,112]⟩]
def cE:List ByteArray:=[⟨#[105,100]⟩,⟨#[109,105,110]⟩,⟨#[109,97,120]⟩,⟨#[119,101,105,103,104,116]⟩,⟨#[103,97,112]⟩,⟨#[112,97,100]⟩,⟨#[98,111,114,100,101,114]⟩,⟨#[97,108,105,103,110]⟩,⟨#[119,114,97,112]⟩,⟨#[102,103]⟩,⟨#[98,103]⟩,⟨#[98,111,108,100]⟩]
def lF:List Int:=[999999,100000,100000,100000,100,20,1,2,1,8,8,1]
def aV:List Int:=[0,0,-1,1,0,0,1,0,1,0,0,0]
def lH(kind attr:Nat):Bool:=if attr=4 then(kind==0||kind==1)else if attr=5\/attr=6 then kind==3 else if attr=7\/attr=8 then kind==5 else true
structure Nd where
 kind:Nat
 attr:List Int
 text:List UInt8
 kids:List Nat
 up:Int
abbrev jA:=Option (Nat×Nat)
def jN(f:jA)(c p:Nat):jA:=match f with
 |none=>some (c,p)
 |some x=>some x
def dW(b:Bool)(f:jA)(c p:Nat):jA:=if b then jN f c p else f
structure PS where
 i:Nat
 L:List Nd
 er:jA
def fY(s:ByteArray)(i c:Nat):Except Nat Nat:=if a_ s i c then .ok (aD s i c)else .error (sk s i)
def kD(s:ByteArray)(j k:Nat):Bool:=decide (k=j\/j+6<k\/(j+1<k/\dS s j=48))
def m7(L:List Nd)(n:Int):Bool:=L.any fun d=>d.attr[0]?.getD 0==n
def iK(s:ByteArray)(kind:Nat)(L:List Nd)(i:Nat)(er:jA)(a:List Int)(seen:List Nat):Except Nat (Nat×jA×List Int×List Nat):=
 let at_:=sk s i
 let k:=run aB s at_
 if k=at_ then .error at_ else
 match fY s k 61 with
 |.error b=>.error b
 |.ok i2=>
  let j:=sk s i2
  let e:=run aP s j
  if kD s j e then .error j else
  let n:=dv s j (e-j)
  let ix:=aJ cE (s.extract at_ k) 0
  if ix<0\/lH kind ix.toNat=false then .ok (e,jN er 7 at_,a,seen)
  else .ok (e,dW (decide (ix=0/\0<n)&&m7 L n) (dW (decide (lF[ix.toNat]?.getD 0<n)) (dW (seen.contains ix.toNat) er 5 at_) 6 j) 5 j,a.set ix.toNat n,ix.toNat::seen)
def dY(s:ByteArray)(kind:Nat)(L:List Nd):Nat->Nat->jA->List Int->List Nat->Except Nat (Nat×jA×List Int)
 |0,i,_,_,_=>.error i
 |f+1,i,er,a,seen=>match iK s kind L i er a seen with
  |.error b=>.error b
  |.ok (i2,eT,a2,pA)=>
   if a_ s i2 59 then dY s kind L f (aD s i2 59) eT a2 pA
   else match fY s i2 125 with
    |.error b=>.error b
    |.ok i3=>.ok (i3,eT,a2)
def pV(s:ByteArray)(kind:Nat)(L:List Nd)(i:Nat)(er:jA):Except Nat (Nat×jA×List Int):=
 if a_ s i 123 then dY s kind L (s.size+1) (aD s i 123) er aV []else .ok (sk s i,er,aV)
def grown(L:List Nd)(d:Nd):List Nd:=
 if d.up<0 then L++[d]else(L.modify d.up.toNat fun u=>{u with kids:=u.kids++[L.length]})++[d]
def aF(L:List Nd)(k:Nat)(t:List UInt8):List Nd:=L.modify k fun u=>{u with text:=t}
def iQ(s:ByteArray)(bn:PS->Except Nat PS):Nat->PS->Except Nat PS
 |0,st=>.error st.i
 |f+1,st=>match bn st with
  |.error b=>.error b
  |.ok eX=>if a_ s eX.i 44 then iQ s bn f {eX with i:=aD s eX.i 44}else match fY s eX.i 93 with
   |.error b=>.error b
   |.ok i3=>.ok {eX with i:=i3}
def lk(s:ByteArray)(kind k:Nat)(bn:PS->Except Nat PS)(st:PS):Except Nat PS:=
 if kind<3 then match fY s st.i 91 with
  |.error b=>.error b
  |.ok i2=>if a_ s i2 93 then .ok {st with i:=aD s i2 93}else iQ s bn (s.size+1) {st with i:=sk s i2}
 else if kind<5 then match fY s st.i 91 with
  |.error b=>.error b
  |.ok i2=>match bn {st with i:=i2}with
   |.error b=>.error b
   |.ok jZ=>match fY s jZ.i 93 with
    |.error b=>.error b
    |.ok i4=>.ok {jZ with i:=i4}
 else if kind=5 then match mS s st.i with
  |.error b=>.error b
  |.ok (i2,t)=>.ok {st with i:=i2,L:=aF st.L k t}
 else .ok st
def js(s:ByteArray):Nat->Int->Nat->PS->Except Nat PS
 |0,_,_,st=>.error st.i
 |f+1,up,depth,st=>
  let at_:=sk s st.i
  let k:=run aB s at_
  let kind:=aJ eh (s.extract at_ k) 0
  if k=at_\/kind<0 then .error at_ else
  match pV s kind.toNat st.L k (dW (decide (12<=depth)) (dW (decide (100<=st.L.length)) st.er 3 at_) 4 at_)with
  |.error b=>.error b
  |.ok (i2,eT,a)=>lk s kind.toNat st.L.length (js s f st.L.length (depth+1)) {i:=i2,L:=grown st.L ⟨kind.toNat,a,[],[],up⟩,er:=eT}
def pf(s:ByteArray):Except (Nat×Nat) (List Nd):=
 if 4000<s.size then .error (1,0)else
 match js s (s.size+1) (-1) 0 ⟨0,[],none⟩with
 |.error b=>.error (2,b)
 |.ok st=>if sk s st.i<s.size then .error (2,sk s st.i)else match st.er with
  |some f=>.error f
  |none=>.ok st.L
def uJ(l:List Nat):List Value:=l.map fun(k:Nat)=>Iq (k:Int)
structure Up(B:Nat)(W W':World):Prop where
 size:W.heap.size<=W'.heap.size
 block:∀b,B<=b->b<W.heap.size->W'.heap[b]?=W.heap[b]?
theorem Up.refl  B   W  :Up B W W:=⟨ae _,fun _ _ _=>rfl⟩
theorem Up.trans{B}{W W1 W2}(h:Up B W W1)(k:Up B W1 W2):Up B W W2:=
 ⟨aH h.size k.size,fun b h1 h2=>(k.block b h1 (zz007 h2 h.size)).trans (h.block b h1 h2)⟩
theorem Up.grown{B r}{W W'}(h:W.grownBy W' (some r))(hr:r<B):Up B W W':=
 ⟨h.size,fun b h1 h2=>h.block b h2 (by grind)⟩
theorem Up.below{B}{W W'}(h:Bt W W'):Up B W W':=⟨h.size,fun b _ h2=>h.block b h2⟩
theorem Up.drewN  B   W   q  :Up B W (W.drewN q):=⟨ae _,fun _ _ _=>rfl⟩
theorem P7{W W'}{B n size}{e}{v}{xs}(h:W.ownsRow B e size v n xs)(hu:Up B W W'):W'.ownsRow B e size v n xs:=by
 refine⟨h.1,?_⟩;rcases h.2 with h2|⟨g,cap,cM,a,b,c,d⟩;·exact .inl h2
 ·refine .inr ⟨g,cap,cM,a,b,?_,d⟩;rw[hu.block g b (az.1 c).1];exact c
theorem fJ{W:World}{B B' n n' size zcO}{e e'}{v v'}{xs xs'}(h:W.ownsRow B e size v n xs)(h':W.ownsRow B' e' zcO v' n' xs')(he:e≠e'):v.ownBlock=none\/v.ownBlock≠v'.ownBlock:=by
 rcases h.2 with⟨rfl,_⟩|⟨g,cap,cM,rfl,b,c,d⟩;·exact .inl rfl
 ·right;rcases h'.2 with⟨rfl,_⟩|⟨g',cH,zmG,rfl,b',c',d'⟩;·simp[Value.ownBlock]
  ·intro hh;simp[Value.ownBlock]at hh;grind
theorem de{W:World}{B n size}{e}{v}{xs}(h:W.ownsRow B e size v n xs):(v=.slice none 0 0/\n=0)\/∃g cap,v=Sq g n cap/\B<=g/\g<W.heap.size/\n<=cap/\cap<=maxLen:=by rcases h.2 with h2|⟨g,cap,cM,a,b,c,d,f,_⟩;all_goals grind
structure NR(W:World)(B:Nat)(T:TypeId)(z:Nat)(nv:Value)(n:Nat)(C:Nat->List Value)(KV:Nat->Value)(K:Nat->List Nat):Prop where
 row:∃xs,W.ownsRow B T z nv n xs
 cells:∀g,nv.ownBlock=some g->∀j,j<n->∀(t:Nat) u,(C j)[t]?=some u->W.cell? (aq g (j*z+t))=some u
 len:∀j,j<n->(C j).length=z
 kids:∀j,j<n->W.ownsRow B 3 1 (KV j) (K j).length (uJ (K j))
 sep:∀i j,i<n->j<n->i≠j->∀b,(KV i).ownBlock=some b->(KV j).ownBlock≠some b
section
variable{W W':World} {B z n:Nat} {T:TypeId} {nv:Value} {C:Nat->List Value} {KV:Nat->Value} {K:Nat->List Nat}
theorem NR.nothing  W   B   T   z   C   KV   K  :NR W B T z (.slice none 0 0) 0 C KV K:=
 ⟨⟨[],jb _ _ _ _⟩,fun _ _ j h=>absurd h (by omega),fun j h=>absurd h (by omega),fun j h=>absurd h (by omega),fun i j h=>absurd h (by omega)⟩
theorem NR.up(h:NR W B T z nv n C KV K)(hu:Up B W W'):NR W' B T z nv n C KV K:=by obtain⟨xs,hx⟩:=h.row;refine⟨⟨xs,P7 hx hu⟩,fun g hg j hj t u Au=>?_,h.len,fun j hj=>P7 (h.kids j hj) hu,h.sep⟩;have:=h.cells g hg j hj t u Au;have hl:=hx.lt g hg;rw[ba (hu.block g hl.1 hl.2)];omega
theorem NR.form(h:NR W B T z nv n C KV K)(hn:0<n):∃g cap,nv=Sq g n cap/\B<=g/\g<W.heap.size/\n<=cap/\cap<=maxLen:=by obtain⟨xs,hx⟩:=h.row;grind[de]
theorem NR.cell{g cap}(h:NR W B T z (Sq g n cap) n C KV K){j}(hj:j<n){t}{u}(ht:(C j)[t]?=some u):W.cell? (aq g (j*z+t))=some u:=h.cells g rfl j hj t u ht
theorem NR.frozen{g cap}(h:NR W B T z (Sq g n cap) n C KV K)  j  :W.frozen? (aq g j)=false:=by obtain⟨xs,hx⟩:=h.row;exact hx.frozenAt j
theorem NR.frz(h:NR W B T z nv n C KV K){g}(hg:nv.ownBlock=some g)  j  :W.frozen? (aq g j)=false:=by
 obtain⟨xs,hx⟩:=h.row;rcases de hx with⟨rfl,_⟩|⟨g',cap,rfl,_⟩;·simp[Value.ownBlock]at hg
 ·simp[Value.ownBlock]at hg;subst hg;exact hx.frozenAt j
theorem NR.app{wQ}{xs ie}(h:NR W B T z nv n C KV K)(hT:3≠T)(hx:W.ownsRow B T z nv n xs)(hx':W'.ownsRow B T z wQ (n+1) (xs++ie))(hg:W.grownBy W' nv.ownBlock)(hl:ie.length=z):
 NR W' B T z wQ (n+1) (fun j=>if j=n then ie else C j) (fun j=>if j=n then .slice none 0 0 else KV j) (fun j=>if j=n then[]else K j):=by
 have WA:=hx.1;refine⟨⟨_,hx'⟩,fun g ur j hj t u Au=>?_,fun j hj=>?_,fun j hj=>?_,fun i j hi hj Hr b hb=>?_⟩
 ·have key:=hx'.cells ur;have zgn:∀m,((aq g 0):Addr).add m=(aq g m):=fun m=>by unfold Addr.add;grind
  have hz:t<z:=by
   have h1:=(np.1 Au).1;by_cases E9:j=n;·grind
   ·rw[if_neg E9,h.len j (by omega)]at h1;exact h1
  rw[<-zgn];refine key _ _ ?_;by_cases E9:j=n;·grind
  ·rw[if_neg E9]at Au;have hlt:j*z+t<n*z:=by have:(j+1)*z<=n*z:=jw _ (by omega);rw[fL]at this;omega
   rw[vG (by omega)];obtain⟨g0,cap,rfl,_⟩:=h.form (by omega);have h1:=h.cell (by omega) Au;rw[hx.cellAt _ hlt]at h1;exact h1
 ·by_cases E9:j=n;·grind
  ·rw[if_neg E9];exact h.len j (by omega)
 ·by_cases E9:j=n;·rw[if_pos E9,if_pos E9];exact jb _ _ _ _
  ·rw[if_neg E9,if_neg E9];exact(h.kids j (by omega)).kept hg (fJ (h.kids j (by omega)) hx hT)
 ·by_cases h1:i=n;·rw[if_pos h1]at hb;simp[Value.ownBlock]at hb
  ·rw[if_neg h1]at hb;by_cases h2:j=n;·rw[if_pos h2];simp[Value.ownBlock]
   ·rw[if_neg h2];exact h.sep i j (by omega) (by omega) Hr b hb
theorem NR.set{g cap}(h:NR W B T z (Sq g n cap) n C KV K)(hT:3≠T){k t}(hk:k<n)(ht:t<z)  u  :
 NR (W.setCell (aq g (k*z+t)) u) B T z (Sq g n cap) n (fun j=>if j=k then(C k).set t u else C j) KV K:=by
 obtain⟨xs,hx⟩:=h.row;have uy:=hx.stored (k*z+t) u;have hkt:k*z+t<n*z:=by have:(k+1)*z<=n*z:=jw _ (by omega);rw[fL]at this;omega
 refine⟨⟨_,uy.1⟩,fun g' ur j hj t' u' Au=>?_,fun j hj=>?_,fun j hj=>?_,h.sep⟩
 ·injection ur with ur;have ur:g=g':=ur;subst ur;have hz:t'<z:=by
   have h1:=(np.1 Au).1;by_cases E9:j=k;·rw[if_pos E9]at h1;simp[h.len k hk]at h1;exact h1
   ·rw[if_neg E9,h.len j (by omega)]at h1;exact h1
  have hlt:j*z+t'<n*z:=by have:(j+1)*z<=n*z:=jw _ (by omega);rw[fL]at this;omega
  rw[uy.1.cellAt _ hlt];have hold:=(hx.cellAt _ hlt).symm;by_cases xG:j=k
  ·subst xG;rw[if_pos rfl]at Au;by_cases OR:t=t';·subst OR;rw[List.getElem?_set_self (by rw[hx.1];exact hkt)];grind
   ·rw[vH (by omega)]at Au⊢;rw[hold];exact h.cell hj Au
  ·rw[if_neg xG]at Au;have bj:k*z+t≠j*z+t':=by
    intro e;rcases Nat.lt_or_gt_of_ne xG with hh|hh;·have:(j+1)*z<=k*z:=jw _ (by omega);rw[fL]at this;omega
    ·have:(k+1)*z<=j*z:=jw _ (by omega);rw[fL]at this;omega
   rw[vH bj,hold];exact h.cell hj Au
 ·by_cases xG:j=k;·rw[if_pos xG];simp[h.len k hk]
  ·rw[if_neg xG];exact h.len j hj
 ·exact(h.kids j hj).kept uy.2 (fJ (h.kids j hj) hx hT)
theorem NR.kid{g cap}{kv'}{k t c}(h:NR W B T z (Sq g n cap) n C KV K)(hT:3≠T)(hk:k<n)(ht:t<z)
 (hr:W'.ownsRow B 3 1 kv' ((K k).length+1) (uJ (K k++[c]))) (hg:W.grownBy W' (KV k).ownBlock) (dm:kv'.ownBlock=(KV k).ownBlock\/kv'.ownBlock=some W.heap.size):
 NR (W'.setCell (aq g (k*z+t)) kv') B T z (Sq g n cap) n (fun j=>if j=k then(C k).set t kv' else C j) (fun j=>if j=k then kv' else KV j) (fun j=>if j=k then K k++[c]else K j):=by
 obtain⟨xs,hx⟩:=h.row;have hx':=hx.kept hg (fJ hx (h.kids k hk) (dh hT));have kM:=hx.lt g rfl;have zr:=hg.block g kM.2 (by
  rcases fJ (h.kids k hk) hx hT with e|e;·rw[e];simp
  ·exact fun e2=>e e2.symm);have YF:=fun j hj xG=>(h.kids j hj).kept hg (by
  cases hb:(KV j).ownBlock with
  |none=>exact .inl rfl
  |some b=>right;exact fun e=>h.sep j k hj hk xG b hb e.symm);have dM:NR W' B T z (Sq g n cap) n C (fun j=>if j=k then kv' else KV j) (fun j=>if j=k then K k++[c]else K j):=by
  refine⟨⟨xs,hx'⟩,fun g' ur j hj t' u' Au=>?_,h.len,fun j hj=>?_,fun i j hi hj Hr b hb=>?_⟩;·injection ur with ur;have ur:g=g':=ur;subst ur;rw[ba zr];exact h.cell hj Au
  ·by_cases xG:j=k;·rw[if_pos xG,if_pos xG];simpa using hr
   ·rw[if_neg xG,if_neg xG];exact YF j hj xG
  ·have su:∀i,i<n->(KV i).ownBlock≠some W.heap.size:=fun i hi e=>by have:=(h.kids i hi).lt _ e;omega
   by_cases h1:i=k
   ·rw[if_pos h1]at hb;have h2:j≠k:=fun e=>Hr (h1.trans e.symm);rw[if_neg h2];rcases dm with e|e;·rw[e]at hb;exact h.sep k j hk hj (fun e=>h2 e.symm) b hb
    ·rw[e]at hb;injection hb with hb;rw[<-hb];exact su j hj
   ·rw[if_neg h1]at hb;by_cases h2:j=k
    ·rw[if_pos h2];rcases dm with e|e;·rw[e];exact h.sep i k hi hk h1 b hb
     ·rw[e];intro e2;injection e2 with e2;exact su i hi (by rw[hb,e2])
    ·rw[if_neg h2];exact h.sep i j hi hj Hr b hb
 exact dM.set hT hk ht kv'
end
def nd0:Nd:=⟨0,[],[],[],0⟩
def ac(L:List Nd)(j:Nat):Nd:=L[j]?.getD nd0
theorem eu{L}{d}{j}(h:j<L.length):ac (L++[d]) j=ac L j:=by grind[ac]
theorem eq  L   d  :ac (L++[d]) L.length=d:=by grind[ac]
theorem bA{L:List Nd}{k}  f  (h:k<L.length):ac (L.modify k f) k=f (ac L k):=by grind[ac]
theorem aY{L}{k j}  f  (h:j≠k):ac (L.modify k f) j=ac L j:=by grind[ac]
theorem NR.congr{W}{B z n}{T}{nv}{C C'}{KV KV'}{K K'}(h:NR W B T z nv n C KV K)
 (h1:∀j,j<n->C' j=C j) (h2:∀j,j<n->KV' j=KV j) (h3:∀j,j<n->K' j=K j):NR W B T z nv n C' KV' K':=
 ⟨h.row,fun g hg j hj t u ht=>h.cells g hg j hj t u (by grind),fun j hj=>by rw[h1 j hj];exact h.len j hj,fun j hj=>by rw[h2 j hj,h3 j hj];exact h.kids j hj,
  fun i j hi hj Hr b hb=>by rw[h2 j hj];rw[h2 i hi]at hb;exact h.sep i j hi hj Hr b hb⟩
structure Fr(B r:Nat)(W W':World):Prop where
 os:W'.os=W.os
 tape:W'.tape=W.tape
 output:W'.output=W.output
 size:W.heap.size<=W'.heap.size
 block:∀b,b<B->b≠r->W'.heap[b]?=W.heap[b]?
theorem Fr.refl  B r   W  :Fr B r W W:=⟨rfl,rfl,rfl,ae _,fun _ _ _=>rfl⟩
theorem Fr.trans{B r}{W W1 W2}(h:Fr B r W W1)(k:Fr B r W1 W2):Fr B r W W2:=
 ⟨k.os.trans h.os,k.tape.trans h.tape,k.output.trans h.output,aH h.size k.size,fun b h1 h2=>(k.block b h1 h2).trans (h.block b h1 h2)⟩
theorem Fr.grown{B r}{W W'}(h:W.grownBy W' (some r))(hB:B<=W.heap.size):Fr B r W W':=
 ⟨h.os,h.tape,h.output,h.size,fun b h1 h2=>h.block b (by omega) (by grind)⟩
theorem Fr.own{B r}{W W'}{o}(h:W.grownBy W' o)(hB:B<=W.heap.size)(ho:∀g,o=some g->B<=g):Fr B r W W':=
 ⟨h.os,h.tape,h.output,h.size,fun b h1 h2=>h.block b (by omega) (fun e=>by grind)⟩
theorem Fr.below{B B' r}{W W'}(h:Below B' W W')(hB:B<=B'):Fr B r W W':=
 ⟨h.os,h.tape,h.output,h.size,fun b h1 h2=>h.block b (by omega)⟩
theorem Fr.drewN  B r   W   q  :Fr B r W (W.drewN q):=⟨rfl,rfl,rfl,ae _,fun _ _ _=>rfl⟩
theorem Fr.cell{B r}{W W'}(h:Fr B r W W'){a}{v}(hc:W.cell? a=some v)(h1:a.block<B)(h2:a.block≠r):W'.cell? a=some v:=
 (ba (h.block a.block h1 h2)).trans hc
theorem Fr.frozen{B r}{W W'}(h:Fr B r W W'){a}(h1:a.block<B)(h2:a.block≠r):W'.frozen? a=W.frozen? a:=
 vI (h.block a.block h1 h2)
def aZ(d:Nd)(kv:Value):List Value:=Iq (d.kind:Int)::((d.attr.map fun(x:Int)=>Iq x)++[.string ⟨d.text.toArray⟩,kv,Iq d.up])
theorem UJ  d   kv  :(aZ d kv)[0]?=some (Iq (d.kind:Int)):=rfl
theorem Is{d}{kv}{t}(h:t<d.attr.length):(aZ d kv)[t+1]?=some (Iq (d.attr[t]?.getD 0)):=by unfold aZ;grind
theorem Iu{d}{kv}(h:d.attr.length=12):(aZ d kv)[13]?=some (.string ⟨d.text.toArray⟩):=by grind[aZ]
theorem UI{d}{kv}(h:d.attr.length=12):(aZ d kv)[14]?=some kv:=by grind[aZ]
theorem Qb{d}{kv}(h:d.attr.length=12):(aZ d kv).length=16:=by simp_all[aZ]
theorem Do{d}{kv}{t}(h:t<d.attr.length)  x  :(aZ d kv).set (t+1) (Iq x)=aZ {d with attr:=d.attr.set t x} kv:=by simp_all[aZ]
theorem Dq{d}{kv}(h:d.attr.length=12)  x  :(aZ d kv).set 13 (.string ⟨x.toArray⟩)=aZ {d with text:=x} kv:=by simp_all[aZ]
theorem Dp{d}{kv kv'}(h:d.attr.length=12)  ks  :(aZ d kv).set 14 kv'=aZ {d with kids:=ks} kv':=by simp_all[aZ]
structure PN(W:World)(B:Nat)(nv:Value)(L:List Nd)(KV:Nat->Value):Prop where
 nr:NR W B 94 16 nv L.length (fun j=>aZ (ac L j) (KV j)) KV (fun j=>(ac L j).kids)
 len:∀j,j<L.length->(ac L j).attr.length=12
section
variable{W W':World} {B:Nat} {nv:Value} {L:List Nd} {KV:Nat->Value}
theorem PN.up(h:PN W B nv L KV)(hu:Up B W W'):PN W' B nv L KV:=⟨h.nr.up hu,h.len⟩
theorem PN.app{wQ}{xs}{d}(h:PN W B nv L KV)(hx:W.ownsRow B 94 16 nv L.length xs)(hx':W'.ownsRow B 94 16 wQ (L.length+1) (xs++aZ d (.slice none 0 0)))(hg:W.grownBy W' nv.ownBlock)(hl:d.attr.length=12)(hk:d.kids=[]):
 PN W' B wQ (L++[d]) (fun j=>if j=L.length then .slice none 0 0 else KV j):=by
 refine⟨?_,fun j hj=>?_⟩
 ·have uu:(L++[d]).length=L.length+1:=by simp
  rw[uu];refine(h.nr.app (by decide) hx hx' hg (Qb hl)).congr (fun j hj=>?_) (fun j hj=>rfl) (fun j hj=>?_);all_goals grind[eq,eu]
 ·by_cases e:j=L.length;·grind[eq]
  ·rw[eu (by grind)];exact h.len j (by grind)
theorem PN.mod{g cap k t}{u}(h:PN W B (Sq g L.length cap) L KV)(hk:k<L.length)(ht:t<16)  f  (hf:(aZ (ac L k) (KV k)).set t u=aZ (f (ac L k)) (KV k)) (hfk:(f (ac L k)).kids=(ac L k).kids) (RQ:(f (ac L k)).attr.length=12):
 PN (W.setCell (aq g (k*16+t)) u) B (Sq g L.length cap) (L.modify k f) KV:=by
 refine⟨?_,fun j hj=>?_⟩
 ·have uu:(L.modify k f).length=L.length:=by simp
  rw[uu];refine(h.nr.set (by decide) hk ht u).congr (fun j hj=>?_) (fun j hj=>rfl) (fun j hj=>?_);all_goals grind[bA,aY]
 ·by_cases e:j=k;·grind[bA]
  ·rw[aY f e];exact h.len j (by grind)
theorem PN.setAttr{g cap k t}(h:PN W B (Sq g L.length cap) L KV)(hk:k<L.length)(ht:t<12)  x  :
 PN (W.setCell (aq g (k*16+(t+1))) (Iq x)) B (Sq g L.length cap) (L.modify k fun d=>{d with attr:=d.attr.set t x}) KV:=
 h.mod hk (by omega) _ (Do (by rw[h.len k hk];exact ht) x) rfl (by simp[h.len k hk])
theorem PN.setText{g cap k}(h:PN W B (Sq g L.length cap) L KV)(hk:k<L.length)  x  :
 PN (W.setCell (aq g (k*16+13)) (.string ⟨x.toArray⟩)) B (Sq g L.length cap) (aF L k x) KV:=
 h.mod hk (by omega) _ (Dq (h.len k hk) x) rfl (h.len k hk)
theorem PN.kid{g cap}{kv'}{k c}(h:PN W B (Sq g L.length cap) L KV)(hk:k<L.length)
 (hr:W'.ownsRow B 3 1 kv' ((ac L k).kids.length+1) (uJ ((ac L k).kids++[c]))) (hg:W.grownBy W' (KV k).ownBlock) (dm:kv'.ownBlock=(KV k).ownBlock\/kv'.ownBlock=some W.heap.size):
 PN (W'.setCell (aq g (k*16+14)) kv') B (Sq g L.length cap) (L.modify k fun u=>{u with kids:=u.kids++[c]}) (fun j=>if j=k then kv' else KV j):=by
 refine⟨?_,fun j hj=>?_⟩
 ·have uu:(L.modify k fun u=>{u with kids:=u.kids++[c]}).length=L.length:=by simp
  rw[uu];refine(h.nr.kid (t:=14) (by decide) hk (by omega) hr hg dm).congr (fun j hj=>?_) (fun j hj=>rfl) (fun j hj=>?_)
  ·by_cases e:j=k;·subst e;simp only[if_true];rw[bA _ hk];exact(Dp (h.len j hk) _).symm
   grind[aY]
  grind[bA,aY]
 ·by_cases e:j=k;·subst e;rw[bA _ hk];exact h.len j hk
  ·rw[aY _ e];exact h.len j (by grind)
end
theorem oH  L   d  (k:Nat) (hd:d.up=(k:Int)) (hk:k<L.length):grown L d=(L++[d]).modify k fun u=>{u with kids:=u.kids++[L.length]}:=by unfold grown;rw[if_neg (by omega),hd];simp only[lW];apply IV;grind
def nG(w:World)(v:Value)(zs:List Int):Prop:=
 ∃a cap,v=.slice a zs.length cap/\(zs=[]\/∃b off,a=some (aq b off)/\b<w.heap.size/\∀j,j<zs.length->w.cell? (aq b (off+j))=some (Iq (zs[j]?.getD 0)))
def wS(s:ByteArray)(i:Nat)(bad:Int):ByteArray:=if bad<0 then s.extract (sk s i) (run aB s (sk s i))else ByteArray.empty
def wI(s:ByteArray)(i:Nat)(bad:Int):Nat:=if bad<0 then run aB s (sk s i)else sk s i
def wB(s:ByteArray)(i:Nat)(bad:Int):Int:=if bad<0 then QQ s i bad else bad
def mI(s:ByteArray)(i c:Nat)(bad:Int):Nat:=if bad<0 then aD s i c else sk s i
def mB(s:ByteArray)(i c:Nat)(bad:Int):Int:=if bad<0 then Pv s i c bad else bad
def nV(s:ByteArray)(i:Nat)(bad:Int):Int:=if bad<0 then dv s (sk s i) (run aP s (sk s i)-sk s i)else 0
def nI(s:ByteArray)(i:Nat)(bad:Int):Nat:=if bad<0 then run aP s (sk s i)else sk s i
def nB(s:ByteArray)(i:Nat)(bad:Int):Int:=if bad<0 then Uy s (sk s i) (run aP s (sk s i)) bad else bad
theorem fT{s}{i c}(hc:c<256)(hi:i<=s.size):aD s i c<=s.size:=by grind[aD,sk,ir,ng]
theorem zcE  s   i   bad  :0<=nV s i bad/\nV s i bad<=999999:=by
 unfold nV;split;·have h:=Bn s (sk s i) (run aP s (sk s i)-sk s i) (fun t ht=>by have:=tf (p:=aP) s (s.size-sk s i) (sk s i) t (by grind[pw,aP,sk,run]);grind[aP]);omega
 ·omega
structure zaF where
 i:Nat
 bad:Int
 n:Int
 p:Nat
 at_:Nat
 ix:Int
def lP(s:ByteArray)(i:Nat)(bad:Int):zaF:=
 let j:=sk s i
 let i1:=wI s j bad
 let b1:=wB s j bad
 let i2:=mI s i1 61 b1
 let b2:=mB s i1 61 b1
 {i:=nI s i2 b2,bad:=nB s i2 b2,n:=nV s i2 b2,p:=sk s i2,at_:=j,ix:=aJ cE (wS s j bad) 0}
def FL(er at_:Int)(f:jA)(i:Nat):Prop:=match f with
 |none=>at_<0
 |some (c,p)=>er=c/\at_=p/\p<=i
theorem FL.on{er at_}{f}{i j}(h:FL er at_ f i)(Hr:i<=j):FL er at_ f j:=by
 cases f with
 |none=>exact h
 |some x=>obtain⟨c,p⟩:=x;exact⟨h.1,h.2.1,aH h.2.2 Hr⟩
theorem FL.add{er at_}{f}{i}(h:FL er at_ f i)(c p:Nat)(hp:i<=p):FL (wrE er at_ c p) (wrA at_ p) (jN f c p) p:=by
 cases f with
 |none=>have h':at_<0:=h;unfold wrE wrA;rw[if_pos (.inl h'),if_pos (.inl h')];exact⟨rfl,rfl,ae _⟩
 |some x=>
  obtain⟨c',p'⟩:=x;obtain⟨h1,h2,h3⟩:=h;have hn:¬(at_<0\/(p:Int)<at_):=by omega
  unfold wrE wrA;rw[if_neg hn,if_neg hn];exact⟨h1,h2,aH h3 hp⟩
def fa(kind:Nat)(L:List Nd)(er:jA)(a:List Int)(seen:List Nat)(st:zaF):jA×List Int×List Nat:=
 if st.ix<0\/lH kind st.ix.toNat=false then(jN er 7 st.at_,a,seen)
 else(dW (decide (st.ix=0/\0<st.n)&&m7 L st.n) (dW (decide (lF[st.ix.toNat]?.getD 0<st.n)) (dW (seen.contains st.ix.toNat) er 5 st.at_) 6 st.p) 5 st.p,a.set st.ix.toNat st.n,st.ix.toNat::seen)
theorem Ez  s   kind   L   i   er   a   seen   bad  (hb:bad<0):
 ((lP s i bad).bad=bad/\iK s kind L i er a seen=.ok ((lP s i bad).i,fa kind L er a seen (lP s i bad)))
 \/(0<=(lP s i bad).bad/\iK s kind L i er a seen=.error (lP s i bad).bad.toNat):=by
 unfold iK;simp only;have e0:=DD s i;have hw:wI s (sk s i) bad=run aB s (sk s i):=by unfold wI;rw[if_pos hb,e0]
 by_cases h1:run aB s (sk s i)=sk s i;·grind[wB,sk,QQ,lP,mB,wI,nB]
 ·have hB:wB s (sk s i) bad=bad:=by unfold wB;rw[if_pos hb];unfold QQ;rw[e0,if_neg h1]
  rw[if_neg h1];by_cases h2:a_ s (run aB s (sk s i)) 61=true
  ·have hm:mB s (run aB s (sk s i)) 61 bad=bad:=by unfold mB;rw[if_pos hb];unfold Pv;rw[if_pos h2]
   have TE:mI s (run aB s (sk s i)) 61 bad=aD s (run aB s (sk s i)) 61:=by unfold mI;rw[if_pos hb]
   have hmr:fY s (run aB s (sk s i)) 61=.ok (aD s (run aB s (sk s i)) 61):=by unfold fY;rw[if_pos h2]
   rw[hmr];simp only;have hs:lP s i bad={i:=run aP s (sk s (aD s (run aB s (sk s i)) 61)),bad:=Uy s (sk s (aD s (run aB s (sk s i)) 61)) (run aP s (sk s (aD s (run aB s (sk s i)) 61))) bad,n:=dv s (sk s (aD s (run aB s (sk s i)) 61)) (run aP s (sk s (aD s (run aB s (sk s i)) 61))-sk s (aD s (run aB s (sk s i)) 61)),p:=sk s (aD s (run aB s (sk s i)) 61),at_:=sk s i,ix:=aJ cE (s.extract (sk s i) (run aB s (sk s i))) 0}:=by
    unfold lP;simp only;rw[hw,hB,hm,TE];have a1:nI s (aD s (run aB s (sk s i)) 61) bad=run aP s (sk s (aD s (run aB s (sk s i)) 61)):=by unfold nI;rw[if_pos hb]
    have a2:nB s (aD s (run aB s (sk s i)) 61) bad=Uy s (sk s (aD s (run aB s (sk s i)) 61)) (run aP s (sk s (aD s (run aB s (sk s i)) 61))) bad:=by unfold nB;rw[if_pos hb]
    have a3:nV s (aD s (run aB s (sk s i)) 61) bad=dv s (sk s (aD s (run aB s (sk s i)) 61)) (run aP s (sk s (aD s (run aB s (sk s i)) 61))-sk s (aD s (run aB s (sk s i)) 61)):=by unfold nV;rw[if_pos hb]
    have a4:wS s (sk s i) bad=s.extract (sk s i) (run aB s (sk s i)):=by unfold wS;rw[if_pos hb,e0]
    rw[a1,a2,a3,a4]
   generalize sk s (aD s (run aB s (sk s i)) 61)=j at hs⊢;generalize run aP s j=e at hs⊢;by_cases h3:kD s j e=true;all_goals grind[lP,Uy,kD,fa]
  grind[a_,run,aB,sk,mB,Pv,fY,lP,nB]
theorem EC{s}{kind}{L}{f i}{er}{a}{seen}{b}(h:iK s kind L i er a seen=.error b):dY s kind L (f+1) i er a seen=.error b:=by rw[dY,h]
theorem A4{s}{kind}{L}{f i i2}{er eT}{a a2}{seen pA}(h:iK s kind L i er a seen=.ok (i2,eT,a2,pA))(hm:a_ s i2 59=true):dY s kind L (f+1) i er a seen=dY s kind L f (aD s i2 59) eT a2 pA:=by grind[dY]
def NI(s:ByteArray)(i:Nat)(er:jA)(a:List Int):Except Nat (Nat×jA×List Int):=match fY s i 125 with
 |.error b=>.error b
 |.ok i3=>.ok (i3,er,a)
theorem A3{s}{kind}{L}{f i i2}{er eT}{a a2}{seen pA}(h:iK s kind L i er a seen=.ok (i2,eT,a2,pA))(hm:¬a_ s i2 59=true):dY s kind L (f+1) i er a seen=NI s i2 eT a2:=by rw[dY,h];simp only;rw[if_neg hm];rfl
structure VR where
 kd:Int
 a:Int
 b:Int
 s:ByteArray
 t:ByteArray
 p:Option Addr
 m:Nat
 zs:List Int
def MG(w:World)(v:Value)(n:Nat)(op:Nat->VR):Prop:=
 ∃a cap,v=.slice a n cap/\(n=0\/∃b off,a=some (aq b off)/\b<w.heap.size/\∀i,i<n->
  w.cell? (aq b (off+i*6))=some (.int .i64 (op i).kd)/\w.cell? (aq b (off+i*6+1))=some (.int .i64 (op i).a)/\w.cell? (aq b (off+i*6+2))=some (.int .i64 (op i).b)/\w.cell? (aq b (off+i*6+3))=some (.string (op i).s)/\w.cell? (aq b (off+i*6+4))=some (.string (op i).t)/\w.cell? (aq b (off+i*6+5))=some (.slice (op i).p (op i).zs.length (op i).m)/\
  nG w (.slice (op i).p (op i).zs.length (op i).m) (op i).zs)
