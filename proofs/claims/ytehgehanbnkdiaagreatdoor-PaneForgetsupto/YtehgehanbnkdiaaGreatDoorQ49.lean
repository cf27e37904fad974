import Derived.Test.YtehgehanbnkdiaaGreatDoorQ48
import Derived.Shelf.SlMaps.DeleteFunc
import Derived.Test.YtehgehanbnkdiaaGreatDoorQ47
set_option linter.all false
set_option maxRecDepth 100000
set_option maxHeartbeats 16000000
namespace Go.Proofs.YtehgehanbnkdiaaGreatDoor
end Go.Proofs.YtehgehanbnkdiaaGreatDoor
namespace Go.Proofs
open Go.Shelf
shelf_lay_g SlLaysDf.n5 Slmd 5 at Tryz 30 as Tryz.delLaid
end Go.Proofs
namespace Go.Proofs.YtehgehanbnkdiaaGreatDoor
section
open Go.RowKit Go.Sort Go.Proofs.Tryz
structure Fs(S r:Nat)(W W':AT):Prop where
 os:W'.os=W.os
 tape:W'.tape=W.tape
 output:W'.output=W.output
 size:W.heap.size<=W'.heap.size
 block:∀b,b<W.heap.size->b≠S->b≠r->W'.heap[b]?=W.heap[b]?
section
variable{S r B:Nat} {W0 W W' W2:AT}
theorem Fs.of(h:Bq W W'):Fs S r W W':=⟨h.os,h.tape,h.output,h.size,λb a _ _=>h.block b a⟩
theorem Fs.trans(h:Fs S r W W')(k:Fs S r W' W2):Fs S r W W2:=
 ⟨k.os.trans h.os,k.tape.trans h.tape,k.output.trans h.output,az h.size k.size,λb a c d=>(k.block b (zz006 a h.size) c d).trans (h.block b a c d)⟩
theorem Fs.grown(h:W.grownBy W' (some r)):Fs S r W W':=⟨h.os,h.tape,h.output,h.size,λb a d c=>h.block b a λe=>c (by injection e)⟩
theorem Fs.one(h:Fs S S W W'):Fs S r W W':=⟨h.os,h.tape,h.output,h.size,λb c a _=>h.block b c a a⟩
theorem Fs.set(W:AT)(o:Nat)(v:Fd):Fs S r W (W.setCell (aq S o) v):=⟨rfl,rfl,rfl,At,λb _ a _=>aH W (aq S o) v b a⟩
theorem Fs.below(h:Fs S r W W')(hS:B<=S)(d:B<=r)(a:B<=W.heap.size):Below B W W':=⟨h.os,h.tape,h.output,h.size,λb c=>h.block b dg dg dg⟩
end
def Dx(L:zza):Lit->DataW Unit->Bool
 |.int _ k,_=>decide (mH L k<0)
 |_,_=>false
theorem Ph.del{D:DataW Unit}{mv:Int->Int}(L:zza)(h:Ph D mv)(t:∃a,D=.map a/\a.Pairwise (λp q=>p.1≠q.1)/\∀p∈a,WideAt.IsKeyLit p.1):Ph (Lib.deleteFuncD (Dx L) D) (λk=>if mH L k<0 then 0 else mv k):=by
 obtain⟨a,rfl,g,u⟩:=t;intro k;have i:WideAt.IsKeyLit (.int .i64 k):=trivial;have m:=h k;show(DataW.map (a.filter λp=>!Dx L p.1 p.2)).atKey _ _=_;have b:(∀p∈a,p.1=.int .i64 k->Dx L p.1 p.2=true)->(DataW.map (a.filter λp=>!Dx L p.1 p.2)).atKey (.int .i64 k) (.lit (.int .i64 0))=.lit (.int .i64 0):=λq=>by refine Maps.atKey_of_not_has ?_ _;rw[Maps.has_eq,IG];intro p f c;obtain⟨n,l⟩:=xx.1 f;rw[q p n (Je c)]at l;cases l
 by_cases c:mH L k<0;·show _=DataW.lit (.int .i64 (if mH L k<0 then 0 else mv k));rw[if_pos c];exact b λp _ e=>by rw[e];exact decide_eq_true c
 ·show _=DataW.lit (.int .i64 (if mH L k<0 then 0 else mv k));rw[if_neg c];by_cases j:∃d,(Lit.int .i64 k,d)∈a;·obtain⟨d,j⟩:=j;rw[WideAt.atKey_mem _ i g j]at m;rw[<-m];exact WideAt.atKey_mem _ i (g.filter _) (xx.2 ⟨j,by simp[Dx,c]⟩)
  ·have o:∀p∈a,p.1=.int .i64 k->False:=λp f e=>j ⟨p.2,by rw[<-e];exact f⟩;rw[b λp f e=>(o p f e).elim,<-m];refine(Maps.atKey_of_not_has ?_ _).symm;rw[Maps.has_eq,IG];exact λp f c=>o p f (Je c)
theorem Ig{L:zza}(g a nb:Nat)(id v:Int)(U:AT)(f:Cg U g L)(d:L.length<=100)(i:U.cell? (aq nb 0)=some (Sq g L.length a)):
 Cw 31 (#[Iq id,Iq v]++#[Pq nb]) U λe h=>e=Rw (.bool (decide (mH L id<0)))/\Gr U h:=by have b:=qH<|scrollOf_any g a id U f d;show Cw 31 #[Iq id,Iq v,Pq nb] U _;generalize L.length=m at b i;generalize mH L id=z at b⊢;clear f;go_enter func31,ntmps31;go_wp2_with(go_at_call 32;refine b.mono ?_;rintro e W2 ⟨rfl,c⟩);all_goals go_ret;exact⟨by simp_all,c⟩
theorem Ft{L:zza}(g a nb r n:Nat)(mv:Int->Int)(U:AT)(o:Cg U g L)(f:L.length<=100)(t:U.cell? (aq nb 0)=some (Sq g L.length a))(q:Mp U r n mv)(u:g≠r)(v:nb≠r):
 Cw 30 #[.map (some r),.func (.func 31) #[] #[Pq nb]] U λe l=>e=Rw (.tuple #[])/\Mp l r n (λk=>if mH L k<0 then 0 else mv k)/\U.grownBy l (some r):=by
 have p:∀args w,(callFunc 31 args).run prog w=.ok (.enter 31 args) w:=enters_of func31 pt rfl;obtain⟨D,m,j⟩:=q;refine ag (AnyDf.maps_DeleteFunc Tryz.delLaid mh (plainElem prog 3) (Dx L) 31 #[Pq nb] r n D U p m λW A OT E F G b d z=>?_) ?_;·obtain⟨x,rfl,rfl,_⟩:=Maps.keyOf_i64 underlying3 d;obtain⟨c,rfl,hy,_⟩:=plainElem_int_inv underlying3 z;refine(Ig g a nb x c W (o.block (b.block g o.lt λe=>u (by injection e))) f (b.cell t λe=>v (by injection e))).mono ?_;rintro e w' ⟨h,hG⟩;exact⟨h,aa hG.below⟩
 ·rintro e w' ⟨h,y,i⟩;exact⟨h,⟨_,y,j.del L (m.entries mh)⟩,i⟩
def Nt(U U':AT)(S r n:Nat)(w h:Int)(t:BY)(sh:Fd)(mv:Int->Int)(text:BY)(q:Except (Option (Nat×Nat)) (List Nd))(e:Ending):Prop:=match q with
 |.error x=>e=Rw (.tuple #[Iq (gq x:Int),Iq (nR x:Int)])/\Bq U U'
 |.ok L=>e=Rw (.tuple #[Iq 0,Iq 0])/\iI U' S w h text r sh/\Mp U' r n (λk=>if mH L k<0 then 0 else mv k)/\Fs S r U U'
theorem pK(S r n:Nat)(w h:Int)(t:BY)(sh:Fd)(mv:Int->Int)(text:BY)(E:zzi)(U:AT)(hG:rj U E)(hA:eu U E)(hE:ri U)(hS:iI U S w h t r sh)(hM:Mp U r n mv)(P:S≠r):
 Cw 8 #[Pq S,.string text] U λe U'=>Nt U U' S r n w h t sh mv text (bj text) e:=by
 have O:=qH<|tparse_any text E U hG hA hE;have N:=qH hS;have HM:=qH hM;have zl:=hS.lt;have Z:=hM.lt;clear hG hA hE hS hM;cases J:bj text with
 |error x=>
  have hx:(gq x:Int)≠0:=by have:=td J;omega
  have zm:((gq x:Int)!=0)=true:=by simpa using hx
  rw[J]at O;unfold Nt;obtain⟨c,hc⟩:∃z:Int,(gq x:Int)=z:=⟨_,rfl⟩;obtain⟨d,hd⟩:∃z:Int,(nR x:Int)=z:=⟨_,rfl⟩;have v:Hid (Cw 29 #[.string text] U λe w'=>e=Rw (.tuple #[.slice none 0 0,Iq c,Iq d])/\Hid (Bq U w')):=O.out.mono λe w' q=>⟨by have:=q.2;dsimp only at this;rw[hc,hd]at this;exact this,q.1⟩;dsimp only;rw[hc]at hx zm⊢;rw[hd];clear J hc hd O N HM;go_enter func8,ntmps8;go_wp2_with(go_at_call 29;refine v.mono ?_;rintro e F ⟨rfl,j⟩);refine bodyPost_ret (results_tmp2 rfl _ _ _) rfl ?_;exact⟨rfl,j.out.alloc j.out.size _⟩
 |ok L=>
  have hT:eq text L:=eL (dW J);have l:=hT.pos;have R:=hT.vl.cnt;have v:Hid (Cw 29 #[.string text] U λe w'=>∃g i,e=Rw (.tuple #[Sq g L.length i,Iq 0,Iq 0])/\Hid (Cg w' g L)/\Hid (U.heap.size<=g)/\Hid (Bq U w')):=by
   refine O.out.mono ?_;rintro e w' ⟨Q,q⟩;rw[J]at q;obtain⟨nv,KV,q1,q2⟩:=q;obtain⟨g,i,rfl⟩:∃g i,nv=Sq g L.length i:=by obtain⟨xs,hx⟩:=q2.nr.row;grind[bZ]
   exact⟨g,i,q1,(q2.ndc l).1,(q2.ndc l).2,Q⟩
  have DL:Hid (∀g i nb u,Cg u g L->u.cell? (aq nb 0)=some (Sq g L.length i)->Mp u r n mv->g≠r->nb≠r->Cw 30 #[.map (some r),.func (.func 31) #[] #[Pq nb]] u λe u'=>e=Rw (.tuple #[])/\Hid (Mp u' r n (λk=>if mH L k<0 then 0 else mv k))/\Hid (u.grownBy u' (some r))):=λg i nb u h1 h2 h3 h4 h5=>Ft g i nb r n mv u h1 R h2 h3 h4 h5;unfold Nt;dsimp only;obtain⟨m,hm⟩:=af L.length;obtain⟨zn,X⟩:∃f:Int->Int,(λk=>if mH L k<0 then 0 else mv k)=f:=⟨_,rfl⟩;rw[hm]at v DL;rw[X]at DL⊢;clear J hT l O hm X;go_enter func8,ntmps8;go_wp2_with fail;refine v.mono ?_;rintro e F ⟨g,i,rfl,A,zg,j⟩;have G:iI F S w h t r sh:=(j.block S zl).trans N;have V:=G.lt;have T:=A.lt;have Y:r<F.heap.size:=zz006 Z j.out.size;obtain⟨B,hB⟩:=af F.heap.size;obtain⟨o,y⟩:=af (F.alloc (.cells #[Sq g m i] 78));have hk:∀b,b<F.heap.size->o.heap[b]?=F.heap[b]?:=λb Q=>by rw[<-y];exact bB _ _ b Q
  have M:Hid (iI o S w h t r sh):=(hk S V).trans G;have zk:Hid (o.heap[B]?=some (.cells #[Sq g m i] 78 (0,0))):=by rw[<-y,<-hB];exact heap_alloc_new _ _
  have zj:Hid (Cg o g L):=A.out.block (hk g T);have zh:Hid (Mp o r n mv):=(HM.out.below j Z).block (hk r Y);have ze:Hid (Bq U o):=by rw[<-y];exact j.out.alloc j.out.size _
  have p:Hid (g≠r/\B≠r/\g≠S/\B≠S):=by have:=zg.out;refine⟨?_,?_,?_,?_⟩<;>omega
  obtain⟨c0,c1,c2,c3,c4,fz⟩:=M.cell;clear A j G hk T V Y;go_wp2_with fail;clear hB y;have I:∀b,b≠S->(o.setCell (aq S 2) (.string text)).heap[b]?=o.heap[b]?:=λb Q=>aH o (aq S 2) _ b Q;refine(DL g i B _ (zj.out.block (I g p.2.2.1)) ((aO (a:=(aq B 0)) (I B p.2.2.2)).trans (by simp[World.cell?,zk.out])) (zh.out.block (I r (λe=>P e.symm))) p.1 p.2.1).mono ?_;rintro e U3 ⟨rfl,zi,K⟩;go_wp2;refine bodyPost_ret (results_tmp2 rfl _ _ _) rfl ?_;have h2:iI (o.setCell (aq S 2) (.string text)) S w h text r sh:=heap_setCell_same _ S 2 _ _ _ M;exact⟨rfl,(K.block S h2.lt (λe=>P (by injection e))).trans h2,zi,((Fs.of ze).trans (Fs.set _ _ _)).trans (Fs.grown K)⟩
end
section
open Go.RowKit Go.Sort Go.Proofs.Tryz
theorem LJ{s:BY}{L:zza}{Wd:zzb}{H:zzg}(m:eq s L)(hS:Sz L Wd H)(w h id:Int):∃a:Int,0<=a/\a<=100000/\∀(i:Nat) b off c P,mH L id=(i:Int)->i<L.length->cG L Wd H w h b off c P L.length->P i 9=a/\P i 8=min (max 0 (gt id b off c)) a:=by
 rcases scI_is L id with q|⟨i,hi,A,l,u,hid⟩;·exact⟨0,dg,dg,λi b off c P e=>dg⟩
 ·by_cases o:∃b off c P,cG L Wd H w h b off c P L.length
  ·obtain⟨b,off,c,P,g⟩:=o;obtain⟨F,G,I,_⟩:=g.scroll m hi l;have z:=(g.sc i hi hi l).1;have y:=(eK m hi (j:=0) dg).2;have E:=hS.hb _ (P i 2) y;have v:=(g.bd i hi).2.2.2.2.2.2.1;refine⟨P i 9,dg,by unfold eF at z;omega,λj d f n Q e x k=>?_⟩;obtain rfl:i=j:=dg
   have t:=(g.size m k (i+1) i dg hi).2.2;have p:=(k.sc i hi hi l).2;rw[u]at p;refine⟨t.symm,?_⟩;rw[p,t];simp[gs,hid]
  ·exact⟨0,dg,dg,λj d f n Q e x k=>absurd ⟨_,_,_,_,k⟩ o⟩
def Rh(sc m i_:Int):Ending:=if sc<0 then .returned (.tuple #[Iq 0,Iq 0,Iq 7])else .returned (.tuple #[Iq (min (max 0 m) i_),Iq i_,Iq 0])
theorem noffset_any(S r n:Nat)(w h:Int)(t:BY)(sh:Fd)(mv:Int->Int)(id f:Int)(E:zzi)(U:AT)(hG:rj U E)(hA:eu U E)(hE:ri U)(ht:aY U)(hS:iI U S w h t r sh)(hM:Mp U r n mv)(hn:n<=4000000000000){L:zza}(O:bj t=.ok L){Wd:zzb}{H:zzg}(hZ:Sz L Wd H)(zh:1<=w/\w<=400/\1<=h/\h<=400)(hR:∀(i:Nat) b off sn P,mH L id=(i:Int)->i<L.length->cG L Wd H w h b off sn P L.length->P i 9=f/\P i 8=min (max 0 (gt id b off sn)) f):
 Cw 12 #[Pq S,Iq id] U λe U'=>e=Rh (mH L id) (mv id) f/\Bq U U':=by
 have zk:prog.follows .mixedOrders=true:=pt;have hT:=eL (dW O);have A:=hT.pos;have y:=hT.vl.cnt;have TP:Hid (Cw 29 #[.string t] U λe w'=>∃g d,e=Rw (.tuple #[Sq g L.length d,Iq 0,Iq 0])/\Hid (Cg w' g L)/\Hid (Bq U w')):=by
  refine(tparse_any t E U hG hA hE).mono ?_;rintro e w' ⟨hb,q⟩;rw[O]at q;obtain⟨nv,KV,R,F⟩:=q;obtain⟨g,d,rfl⟩:∃g d,nv=Sq g L.length d:=by obtain⟨xs,hx⟩:=F.nr.row;grind[bZ]
  exact⟨g,d,R,(F.ndc A).1,hb⟩
 have SO:Hid (∀g d u,Cg u g L->Cw 32 #[Sq g L.length d,Iq id] u λe o=>e=Rw (Iq (mH L id))/\Hid (Bq u o)):=λg d u hu=>(scrollOf_any g d id u hu y).mono λe o q=>⟨q.1,q.2.below⟩;have SC:Hid (∀u,Bq U u->Cw 34 #[Pq S] u λe o=>∃p k c,e=Rw (.slice p k c)/\Hid (Bq u o)/\Hid (∃b off,oi o p k b off/\(∀a:Addr,p=some a->a.block<o.heap.size)/\k<=4000000000000/\∀id,gt id b off k=mv id)):=λu hu=>by refine(ly S r n w h t sh mv u ((hu.block S hS.lt).trans hS) (hM.below hu hM.lt) hn).mono ?_;rintro e o ⟨p,k,c,b,off,R,F,q3,q4,q5,q6⟩;exact⟨p,k,c,R,q6,b,off,F,q3,q4,q5⟩
 have LY:Hid (∀u p k c,Bq U u->(∃b off,oi u p k b off/\(∀a:Addr,p=some a->a.block<u.heap.size)/\k<=4000000000000/\∀id,gt id b off k=mv id)->Cw 36 #[.string t,Iq w,Iq h,.slice p k c] u λe o=>∃Q,e=Rw (.tuple #[Sq Q L.length L.length,Iq 0,Iq 0])/\Hid (Bq u o)/\Hid (∃P,o.rowIs Q 95 (L.length*10) (tI P)/\∀i:Nat,mH L id=(i:Int)->i<L.length->P i 9=f/\P i 8=min (max 0 (mv id)) f)):=λu p k c hu ⟨b,off,F,q3,q4,q5⟩=>by
  refine(layout_at t w h p k c b off E u (hG.cells hu) (hA.below hu) (hE.below hu) (ht.below hu) F dg q3 Wd H (λL' e=>by rw[O]at e;cases e;exact hZ)).mono ?_;rintro e o ⟨hb,z⟩;rw[O]at z;rcases z with⟨z,_⟩|⟨_,Q,P,z1,z2,z3,_⟩;·exact absurd zh z
  ·refine⟨Q,z1,hb,P,z2,λi hi hl=>?_⟩;have:=hR i b off k P hi hl z3;rw[q5 id]at this;exact this
 have x:Hid (∀u,Bq U u->u.cell? (aq S 0)=some (Iq w)/\u.cell? (aq S 1)=some (Iq h)/\u.cell? (aq S 2)=some (.string t)):=λu hu=>by obtain⟨c0,c1,c2,_⟩:=iI.cell (W:=u) ((hu.block S hS.lt).trans hS);exact⟨c0,c1,c2⟩
 have N:=qH<|scI_is L id;have z2:=(x U (ac _ _)).2.2;clear hG hA hE ht hS hM hR O hZ hT;obtain⟨m,hm⟩:=af L.length;have Y:=qH hm;obtain⟨sc,J⟩:=af (mH L id);have zi:=qH J;rw[hm]at TP SO LY y;rw[J]at SO LY N⊢;clear hm J A;go_enter func12,ntmps12;go_wp2_with(first|(go_at_call 29;refine TP.mono ?_;rintro e U1 ⟨g,d,rfl,M,K⟩)|(go_at_call 32;refine(SO _ _ _ M).mono ?_;rintro e U2 ⟨rfl,T⟩;have HC2:=qH<|K.trans (T.mono K.size);by_cases zg:sc<0)|fail);·refine bodyPost_ret (results_tmp3 rfl _ _ _) rfl ?_;exact⟨by unfold Rh;rw[if_pos zg];rfl,HC2⟩
 ·obtain⟨i,hi,ze⟩:∃i:Nat,i<m/\sc=(i:Int):=by
   rcases N.out with q|⟨i,R,F,_⟩;·omega
   ·exact⟨i,by have:=Y.out;omega,F⟩
  subst ze;have G:=qH<|HC2.drew;obtain⟨d0,d1,d2⟩:=x U2 HC2;clear M z2;go_region_held(λW=>W.cell? (aq S 0)=some (Iq w)/\W.cell? (aq S 1)=some (Iq h)/\W.cell? (aq S 2)=some (.string t)) (go_keep) (first
   |(go_at_call 34;refine ag (SC _ G) ?_;rintro e U3 ⟨p,k,c,rfl,V,HX⟩;have j:=qH<|G.trans (V.mono G.size);have m0:=(x U3 j).1;have m1:=(x U3 j).2.1;have m2:=(x U3 j).2.2)
   |(go_at_call 36;refine ag (LY _ _ _ _ j HX) ?_;rintro e U4 ⟨Q,rfl,X,HY⟩;have v:=qH<|j.trans (X.mono j.size);have n0:=(x U4 v).1;have n1:=(x U4 v).2.1;have n2:=(x U4 v).2.2));all_goals
   obtain⟨P,l,hP⟩:=HY.out;obtain⟨h9,h8⟩:=hP i rfl hi;have q8:=ba l hi (t:=8) dg;have q9:=ba l hi (t:=9) dg;rw[h8]at q8;rw[h9]at q9;have zj:(i:Int)<(m:Int):=dg;obtain⟨o8,I⟩:=af (min (max 0 (mv id)) f);have Z:=qH I;rw[I]at q8;clear I;clear l hP h8 h9 m0 m1 m2 n0 n1 n2 d0 d1 d2;go_wp2_with fail;go_quiet(fail);go_wp2;refine bodyPost_ret (results_tmp3 rfl _ _ _) rfl ?_;exact⟨by unfold Rh;rw[if_neg dg,Z.out];rfl,cB v _⟩
def OP(mv:Int->Int)(id i_ kV:Int):Int:=min (max 0 (mv id)) i_+min (max kV (-(min (max 0 (mv id)) i_))) (i_-min (max 0 (mv id)) i_)
def Ri(U U':AT)(S r n:Nat)(w h:Int)(t:BY)(sh:Fd)(mv:Int->Int)(sc id i_ kV:Int)(e:Ending):Prop:=if sc<0 then e=Rw (Iq 7)/\Bq U U' else e=Rw (Iq 0)/\iI U' S w h t r sh/\Mp U' r (n+1) (λj=>if j=id then OP mv id i_ kV else mv j)/\Fs S r U U'
theorem vN(S r n:Nat)(w h:Int)(t:BY)(sh:Fd)(mv:Int->Int)(id a b:Int)(E:zzi)(U:AT)(hG:rj U E)(G:eu U E)(I:ri U)(N:aY U)(hS:iI U S w h t r sh)(l:Mp U r n mv)(u:S≠r)(V:n<=4000000000000){L:zza}(M:bj t=.ok L){Wd:zzb}{H:zzg}(K:Sz L Wd H)(z:1<=w/\w<=400/\1<=h/\h<=400)(hid:ff id)(x:ff b)(X:0<=a/\a<=100000)(J:∀(i:Nat) k off O P,mH L id=(i:Int)->i<L.length->cG L Wd H w h k off O P L.length->P i 9=a/\P i 8=min (max 0 (gt id k off O)) a):
 Cw 14 #[Pq S,Iq id,Iq b] U λe T=>Ri U T S r n w h t sh mv (mH L id) id a b e:=by
 have OF:=qH<|noffset_any S r n w h t sh mv id a E U hG G I N hS l V M K z J;have m:=qH hS;have Q:=qH l;have q:=hS.lt;have y:=l.lt;clear hG G I N hS l J M K;unfold Rh at OF;generalize mH L id=sc at OF⊢;by_cases f:sc<0;·rw[if_pos f]at OF;go_enter func14,ntmps14;go_wp2_with(go_at_call 12;refine OF.mono ?_;rintro e A ⟨rfl,c⟩);go_ret;unfold Ri;rw[if_pos f];exact⟨rfl,c⟩
 ·rw[if_neg f]at OF;obtain⟨d,o⟩:=af (min (max 0 (mv id)) a);have ho:0<=d/\d<=a:=dg
  have R:Hid (OP mv id a b=d+min (max b (-d)) (a-d)):=by unfold OP;rw[o];rfl
  rw[o]at OF;clear o;go_enter func14,ntmps14;go_wp2_with(go_at_call 12;refine OF.mono ?_;rintro e A ⟨rfl,c⟩;have g:Hid (iI A S w h t r sh):=(c.block S q).trans m;have c3:=g.cell.2.2.2.1;obtain⟨v,Z⟩:=af (min (max b (-d)) (a-d));have ze:-d<=v/\v<=a-d:=(by unfold ff at x;omega);obtain⟨W2,Y,p,j⟩:=(Q.out.below c y).put hid (v:=d+v) (by unfold ff;omega) dg);go_ret;unfold Ri;rw[if_neg dg,R.out,Z];have F:=g.out;exact⟨rfl,(j.block S F.lt (λe=>u (by injection e))).trans F,p,(Fs.of c).trans (Fs.grown j)⟩
theorem rF{W H:Nat}{L:zza}{P Q:zzj}:∀k,(∀i,i<k->∀t,t<10->P i t=Q i t)->frK W H L P k=frK W H L Q k
 |0,_=>rfl
 |k+1,h=>by have a:=h k dg;simp only[frK];rw[rF k (λi hi=>h i dg),a 0 dg,a 1 dg,a 2 dg,a 3 dg,a 4 dg,a 5 dg,a 6 dg,a 7 dg]
theorem cG.offs{L:zza}{Wd:zzb}{H:zzg}{w h:Int}{e off f g:zzb}{j sm:Nat}{P:zzj}(d:cG L Wd H w h e off j P L.length)(k:∀id,gt id e off j=gt id f g sm):cG L Wd H w h f g sm P L.length:=
 ⟨d.root,λi a b c=>by have:=d.sc i a b c;unfold gs at*;rw[k]at this;exact this,d.no,d.kr,d.bd⟩
def gz(L:zza)(Wd:zzb)(Hf:zzg)(W H:Nat)(mv:Int->Int)(C:zzd):Prop:=∃eJ off sn P,cG L Wd Hf W H eJ off sn P L.length/\(∀id,gt id eJ off sn=mv id)/\C=frK W H L P L.length
section
variable{s:BY} {L:zza} {Wd:zzb} {Hf:zzg} {W H:Nat} {mv:Int->Int} {C D:zzd}
theorem gz.uniq(f:eq s L)(h:gz L Wd Hf W H mv C)(c:gz L Wd Hf W H mv D):C=D:=by obtain⟨g,off,l,P,d,e,rfl⟩:=h;obtain⟨j,k,sm,Q,a,b,rfl⟩:=c;exact rF _ λi hi=>cG.uniq f (d.offs λid=>(e id).trans (b id).symm) a (i+1) i dg hi
end
def Pk(U U':AT)(N n cap:Nat):Prop:=U.heap.size<=N/\n<=cap/\cap<=9223372036854775807
theorem nscreen_any(S r n W H:Nat)(t:BY)(sh:Fd)(mv:Int->Int)(E:zzi)(U:AT)(hG:rj U E)(O:eu U E)(Q:ri U)(V:aY U)(hS:iI U S W H t r sh)(F:Mp U r n mv)(hn:n<=4000000000000){L:zza}(G:bj t=.ok L){Wd:zzb}{Hf:zzg}(R:Sz L Wd Hf)(hW:1<=W/\W<=400)(hH:1<=H/\H<=400):
 Cw 9 #[Pq S] U λe x=>∃N d C,e=Rw (Sq N (W*H) d)/\Hid (Cv 46 x N W H C)/\Hid (gz L Wd Hf W H mv C)/\Hid (Pk U x N (W*H) d)/\Hid (Bq U x):=by
 have ze:prog.follows .mixedOrders=true:=pt;have SC:Hid (∀u,Bq U u->Cw 34 #[Pq S] u λe h=>∃p k c,e=Rw (.slice p k c)/\Hid (Bq u h)/\Hid (∃b off,oi h p k b off/\(∀a:Addr,p=some a->a.block<h.heap.size)/\k<=4000000000000/\∀id,gt id b off k=mv id)):=λu hu=>by refine(ly S r n W H t sh mv u ((hu.block S hS.lt).trans hS) (F.below hu F.lt) hn).mono ?_;rintro e h ⟨p,k,c,b,off,q1,I,J,X,K,q6⟩;exact⟨p,k,c,q1,q6,b,off,I,J,X,K⟩
 have M:Hid (∀u p k c,Bq U u->(∃b off,oi u p k b off/\(∀a:Addr,p=some a->a.block<u.heap.size)/\k<=4000000000000/\∀id,gt id b off k=mv id)->Cw 33 #[.string t,Iq W,Iq H,.slice p k c] u λe h=>∃N d C,e=Rw (.tuple #[Sq N (W*H) d,Iq 0,Iq 0])/\Hid (Cv 46 h N W H C)/\Hid (gz L Wd Hf W H mv C)/\Hid (Pk u h N (W*H) d)/\Hid (Bq u h)):=λu p k c hu ⟨b,off,I,J,X,K⟩=>by
  refine(DF t W H p k c b off E u (hG.cells hu) (O.below hu) (Q.below hu) (V.below hu) I dg J Wd Hf (λL' e=>by rw[G]at e;cases e;exact R)).mono ?_;rintro e h ⟨hb,z⟩;rw[G]at z;rcases z with⟨z,_⟩|⟨W',Y,z0,z1,_,_,N,d,P,z2,z3,z4,z5⟩;·exact absurd dg z
  ·obtain rfl:W=W':=dg
   obtain rfl:H=Y:=dg;exact⟨N,d,_,z3,z4,⟨b,off,k,P,z2,K,rfl⟩,z5,hb⟩
 have i:Hid (∀u,Bq U u->u.cell? (aq S 0)=some (Iq W)/\u.cell? (aq S 1)=some (Iq H)/\u.cell? (aq S 2)=some (.string t)):=λu hu=>by obtain⟨c0,c1,c2,_⟩:=iI.cell (W:=u) ((hu.block S hS.lt).trans hS);exact⟨c0,c1,c2⟩
 clear hG O Q V hS F G R;obtain⟨m,T⟩:=af (W*H);rw[T]at M⊢;clear T;have j:=qH<|(ac U.heap.size U).drew;obtain⟨d0,d1,d2⟩:=i U (ac _ _);go_enter func9,ntmps9;go_wp2_with fail;go_region_held(λW'=>W'.cell? (aq S 0)=some (Iq W)/\W'.cell? (aq S 1)=some (Iq H)/\W'.cell? (aq S 2)=some (.string t)) (go_keep) (first
  |(go_at_call 34;refine ag (SC _ j) ?_;rintro e y ⟨p,k,c,rfl,o,Z⟩;have f:=qH<|j.trans (o.mono j.size);have m0:=(i y f).1;have m1:=(i y f).2.1;have m2:=(i y f).2.2)
  |(go_at_call 33;refine ag (M _ _ _ _ f Z) ?_;rintro e A ⟨N,d,C,rfl,w,v,l,q⟩;have g:=qH<|f.trans (q.mono f.size);have n0:=(i A g).1;have n1:=(i A g).2.1;have n2:=(i A g).2.2));all_goals clear m0 m1 m2 n0 n1 n2 d0 d1 d2;go_wp2;go_ret;exact⟨N,d,C,rfl,w,v,⟨az f.size l.out.1,l.out.2⟩,g⟩
end
section
open Go.RowKit Go.Sort Go.Proofs.Tryz
def ft:BY:=⟨#[103,97,112]⟩
theorem gJ(n:Int)(u:AT):Cw 28 #[Iq n] u λe a=>e=Rw (.bool (decide (1<=n/\n<=400)))/\a=u:=by
 by_cases b:1<=n;·by_cases c:n<=400;all_goals go_enter func28,ntmps28;go_wp2;go_ret;simp_all
 ·go_enter func28,ntmps28;go_wp2;go_ret;exact⟨by simp;omega,rfl⟩
theorem kM(S r:Nat)(w h x y:Int)(t:BY)(sh:Fd)(b:1<=x/\x<=400/\1<=y/\y<=400)(U:AT)(hS:iI U S w h t r sh):
 Cw 7 #[Pq S,Iq x,Iq y] U λe d=>e=Rw (Iq 0)/\iI d S x y t r (.slice none 0 0)/\Fs S S U d:=by
 have g:Hid (∀u,Cw 28 #[Iq x] u λe c=>e=Rw (.bool true)/\c=u):=λu=>by have:=gJ x u;grind
 have i:Hid (∀u,Cw 28 #[Iq y] u λe c=>e=Rw (.bool true)/\c=u):=λu=>by have:=gJ y u;grind
 obtain⟨j,c1,c2,c3,c4,k⟩:=hS.cell;have f:=qH hS;clear hS b;go_enter func7,ntmps7;go_wp2_with(first|(go_at_call 28;(with_reducible refine ag (g.out _) ?_);rintro e u5 ⟨rfl,a⟩;obtain rfl:=a.symm)|(go_at_call 28;(with_reducible refine ag (i.out _) ?_);rintro e u5 ⟨rfl,a⟩;obtain rfl:=a.symm));all_goals go_ret;exact⟨rfl,heap_setCell_same _ S 4 _ _ _ (heap_setCell_same _ S 1 _ _ _ (heap_setCell_same _ S 0 _ _ _ f)),((Fs.set _ _ _).trans (Fs.set _ _ _)).trans (Fs.set _ _ _)⟩
theorem nh(S:Nat)(x y:Int)(b:¬(1<=x/\x<=400/\1<=y/\y<=400))(U:AT):
 Cw 7 #[Pq S,Iq x,Iq y] U λe h=>e=Rw (Iq 6)/\h=U:=by
 by_cases f:1<=x/\x<=400
 ·have d:Hid (∀u,Cw 28 #[Iq x] u λe c=>e=Rw (.bool true)/\c=u):=λu=>by have:=gJ x u;grind
  have g:Hid (∀u,Cw 28 #[Iq y] u λe c=>e=Rw (.bool false)/\c=u):=λu=>by have:=gJ y u;grind
  clear b f;go_enter func7,ntmps7;go_wp2_with(first|(go_at_call 28;(with_reducible refine ag (d.out _) ?_);rintro e u5 ⟨rfl,a⟩;obtain rfl:=a.symm)|(go_at_call 28;(with_reducible refine ag (g.out _) ?_);rintro e u5 ⟨rfl,a⟩;obtain rfl:=a.symm));all_goals go_ret;exact⟨rfl,rfl⟩
 ·have d:Hid (∀u,Cw 28 #[Iq x] u λe c=>e=Rw (.bool false)/\c=u):=λu=>by have:=gJ x u;grind
  clear b f;go_enter func7,ntmps7;go_wp2_with(go_at_call 28;refine ag (d.out _) ?_;rintro e u5 ⟨rfl,a⟩;obtain rfl:=a.symm);all_goals go_ret;exact⟨rfl,rfl⟩
def Wm(U U':AT)(w h:Int)(e:Ending):Prop:=∃S r,e=Rw (.tuple #[Pq S,Iq 0])/\iI U' S w h ft r (.slice none 0 0)/\Mp U' r 0 (λ_=>0)/\Bq U U'/\U.heap.size<=r/\r<S
theorem Lj(w h:Int)(m:1<=w/\w<=400/\1<=h/\h<=400)(U:AT):Cw 15 #[Iq w,Iq h] U λe g=>Wm U g w h e:=by
 obtain⟨R,i⟩:=af U.heap.size;obtain⟨b,a⟩:=af ((U.alloc (.map #[] 0)).alloc (.cells #[Iq 0,Iq 0,.string ft,.map (some R),.slice none 0 0] 77));have l:iI b (R+1) 0 0 ft R (.slice none 0 0):=by rw[<-a,<-i,show U.heap.size+1=(U.alloc (.map #[] 0)).heap.size by simp];exact heap_alloc_new _ _
 have f:Hid (Mp b R 0 (λ_=>0)):=by rw[<-a,<-i];exact(Mp.new U).kept (World.grownBy_alloc _ _ none) At
 have c:Hid (Below R U b):=by rw[<-a,<-i];exact(((Gr.refl U).alloc _).alloc _).below
 have RS:Hid (Cw 7 #[Pq (R+1),Iq w,Iq h] b λe g=>e=Rw (Iq 0)/\Hid (iI g (R+1) w h ft R (.slice none 0 0))/\Hid (Fs (R+1) (R+1) b g)):=kM (R+1) R 0 0 w h ft _ m b l;have j:=qH i;unfold ft at a;have n:∀w:AT,(Instr.makeMap 75 none).run prog w=.ok (.map (some w.heap.size)) (w.alloc (.map #[] 0)):=λ_=>rfl;go_enter func15,ntmps15;go_wp2_with(go_at_call 7;refine RS.mono ?_;rintro e p ⟨rfl,k,d⟩);refine bodyPost_ret (results_tmp2 rfl _ _ _) rfl ?_;have o:=f.out.lt;refine⟨R+1,R,rfl,k,f.out.block (d.block R o dg dg),?_,by rw[j.out];omega,dg⟩;have q:=c.out.trans (d.out.below dg dg (by have:=c.out.size;have:=j.out;omega));rw[<-j.out]at q;exact q
theorem G8(w h:Int)(b:¬(1<=w/\w<=400/\1<=h/\h<=400))(U:AT):Cw 15 #[Iq w,Iq h] U λe a=>e=Rw (.tuple #[.pointer none,Iq 6])/\Bq U a:=by have RS:Hid (∀S u,Cw 7 #[Pq S,Iq w,Iq h] u λe a=>e=Rw (Iq 6)/\a=u):=λS u=>nh S w h b u;have c:∀w:AT,(Instr.makeMap 75 none).run prog w=.ok (.map (some w.heap.size)) (w.alloc (.map #[] 0)):=λ_=>rfl;go_enter func15,ntmps15;go_wp2_with(go_at_call 7;refine(RS _ _).mono ?_;rintro e d ⟨rfl,rfl⟩);refine bodyPost_ret (results_tmp2 rfl _ _ _) rfl ?_;exact⟨rfl,(((Gr.refl U).alloc _).alloc _).below⟩
theorem xW:∃L,bj ft=.ok L:=⟨_,rfl⟩
theorem Ia(w h:Int)(a:1<=w/\w<=400/\1<=h/\h<=400)(U:AT):Cw 16 #[Iq w,Iq h] U λe b=>e=Rw (.tuple #[Pq U.heap.size,Iq 0])/\b=U.alloc (.cells #[.string ft,Iq w,Iq h,.slice none 0 0,.bool true] 102):=by
 obtain⟨c,d,f,g⟩:=a;have t1:¬w<1:=dg;have t2:¬400<w:=dg;have t3:¬h<1:=dg;have t4:¬400<h:=dg;go_enter func16,ntmps16;go_wp2;refine bodyPost_ret (results_tmp2 rfl _ _ _) rfl ?_;exact⟨rfl,rfl⟩
theorem H_(w h:Int)(c:¬(1<=w/\w<=400/\1<=h/\h<=400))(U:AT):Cw 16 #[Iq w,Iq h] U λe a=>e=Rw (.tuple #[.pointer none,Iq 6])/\a=U:=by
 have b:w<1\/(¬w<1/\400<w)\/((¬w<1/\¬400<w)/\h<1)\/((¬w<1/\¬400<w)/\¬h<1/\400<h):=dg;rcases b with t1|⟨t1,t2⟩|⟨⟨t1,t2⟩,t3⟩|⟨⟨t1,t2⟩,t3,t4⟩;all_goals go_enter func16,ntmps16;go_wp2;refine bodyPost_ret (results_tmp2 rfl _ _ _) rfl ?_;exact⟨rfl,rfl⟩
