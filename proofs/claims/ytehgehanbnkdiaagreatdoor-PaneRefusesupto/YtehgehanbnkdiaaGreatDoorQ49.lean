import Derived.Test.YtehgehanbnkdiaaGreatDoorQ48
import Derived.Shelf.SlMaps.DeleteFunc
import Derived.Test.YtehgehanbnkdiaaGreatDoorQ47
import Derived.Test.YtehgehanbnkdiaaGreatDoorQ21
set_option linter.all false
set_option maxRecDepth 100000
set_option maxHeartbeats 16000000
namespace Go.Proofs.YtehgehanbnkdiaaGreatDoor
end Go.Proofs.YtehgehanbnkdiaaGreatDoor
namespace Go.Proofs
open Go.Shelf
shelf_lay_g SlLaysDf.n5 Slmd 5 at Tryz 30 as Tryz.delLaid
end Go.Proofs
namespace Go.Proofs.YtehgehanbnkdiaaGreatDoor
section
open Go.RowKit Go.Sort Go.Proofs.Tryz
structure Fs(S r:Nat)(W W':AT):Prop where
 os:W'.os=W.os
 tape:W'.tape=W.tape
 output:W'.output=W.output
 size:W.heap.size<=W'.heap.size
 block:∀b,b<W.heap.size->b≠S->b≠r->W'.heap[b]?=W.heap[b]?
section
variable{S r B:Nat} {W0 W W' W2:AT}
def Fs.of(h:Bq W W'):Fs S r W W':=⟨h.os,h.tape,h.output,h.size,λb a _ _=>h.block b a⟩
def Fs.trans(h:Fs S r W W')(k:Fs S r W' W2):Fs S r W W2:=
 ⟨k.os.trans h.os,k.tape.trans h.tape,k.output.trans h.output,aA h.size k.size,λb a c d=>(k.block b (zz006 a h.size) c d).trans (h.block b a c d)⟩
def Fs.grown(h:W.grownBy W' (some r)):Fs S r W W':=⟨h.os,h.tape,h.output,h.size,λb a d c=>h.block b a λe=>c (by injection e)⟩
def Fs.one(h:Fs S S W W'):Fs S r W W':=⟨h.os,h.tape,h.output,h.size,λb c a _=>h.block b c a a⟩
def Fs.set(W:AT)(o:Nat)(v:Fd):Fs S r W (W.setCell (aq S o) v):=⟨rfl,rfl,rfl,At,λb _ a _=>aM W (aq S o) v b a⟩
def Fs.below(h:Fs S r W W')(hS:B<=S)(d:B<=r)(a:B<=W.heap.size):Below B W W':=⟨h.os,h.tape,h.output,h.size,λb c=>h.block b dg dg dg⟩
end
def Ei(L:zza):Lit->DataW Unit->Bool
 |.int _ k,_=>decide (lq L k<0)
 |_,_=>false
def Qi.del{D:DataW Unit}{mv:Int->Int}(L:zza)(h:Qi D mv)(x:∃a,D=.map a/\a.Pairwise (λp q=>p.1≠q.1)/\∀p∈a,WideAt.IsKeyLit p.1):Qi (Lib.deleteFuncD (Ei L) D) (λk=>if lq L k<0 then 0 else mv k):=by
 obtain⟨a,rfl,g,y⟩:=x;intro k;have i:WideAt.IsKeyLit (.int .i64 k):=trivial;have n:=h k;show(DataW.map (a.filter λp=>!Ei L p.1 p.2)).atKey _ _=_;have b:(∀p∈a,p.1=.int .i64 k->Ei L p.1 p.2=true)->(DataW.map (a.filter λp=>!Ei L p.1 p.2)).atKey (.int .i64 k) (.lit (.int .i64 0))=.lit (.int .i64 0):=λq=>by refine Maps.atKey_of_not_has ?_ _;rw[Maps.has_eq,JD];intro p f c;obtain⟨o,l⟩:=xR.1 f;rw[q p o (J0 c)]at l;cases l
 by_cases c:lq L k<0;.show _=DataW.lit (.int .i64 (if lq L k<0 then 0 else mv k));rw[if_pos c];exact b λp _ e=>by rw[e];exact decide_eq_true c
 .show _=DataW.lit (.int .i64 (if lq L k<0 then 0 else mv k));rw[if_neg c];by_cases j:∃d,(Lit.int .i64 k,d)∈a;.obtain⟨d,j⟩:=j;rw[WideAt.atKey_mem _ i g j]at n;rw[<-n];exact WideAt.atKey_mem _ i (g.filter _) (xR.2 ⟨j,by simp[Ei,c]⟩)
  .have u:∀p∈a,p.1=.int .i64 k->False:=λp f e=>j ⟨p.2,by rw[<-e];exact f⟩;rw[b λp f e=>(u p f e).elim,<-n];refine(Maps.atKey_of_not_has ?_ _).symm;rw[Maps.has_eq,JD];exact λp f c=>u p f (J0 c)
def Jd{L:zza}(g a nb:Nat)(id v:Int)(U:AT)(f:Dd U g L)(d:L.length<=100)(i:U.cell? (aq nb 0)=some (Sq g L.length a)):
 Cw 31 (#[Iq id,Iq v]++#[Pq nb]) U λe h=>e=Rw (.bool (decide (lq L id<0)))/\Gr U h:=by have b:=qH<|scrollOf_any g a id U f d;show Cw 31 #[Iq id,Iq v,Pq nb] U _;generalize L.length=m at b i;generalize lq L id=z at b|-;clear f;go_enter func31,ntmps31;go_wp2_with(go_at_call 32;refine Ut b ?_;rintro W2 c);all_goals go_ret;exact⟨by simp_all,c⟩
def Gp{L:zza}(g a nb r n:Nat)(mv:Int->Int)(U:AT)(u:Dd U g L)(f:L.length<=100)(A:U.cell? (aq nb 0)=some (Sq g L.length a))(z:Mp U r n mv)(E:g≠r)(F:nb≠r):
 Cw 30 #[.map (some r),.func (.func 31) #[] #[Pq nb]] U λe l=>e=Rw (.tuple #[])/\Mp l r n (λk=>if lq L k<0 then 0 else mv k)/\U.grownBy l (some r):=by
 have y:∀args w,(callFunc 31 args).run prog w=.ok (.enter 31 args) w:=enters_of func31 pt rfl;obtain⟨D,o,j⟩:=z;refine ag (AnyDf.maps_DeleteFunc Tryz.delLaid mG (plainElem prog 3) (Ei L) 31 #[Pq nb] r n D U y o λW J PI K M N b d I=>?_) ?_;.obtain⟨x,rfl,rfl,_⟩:=Maps.keyOf_i64 underlying3 d;obtain⟨c,rfl,hy,_⟩:=plainElem_int_inv underlying3 I;refine(Jd g a nb x c W (u.block (b.block g u.lt λe=>E (by injection e))) f (b.cell A λe=>F (by injection e))).mono ?_;rintro e w' ⟨h,hG⟩;exact⟨h,aa hG.below⟩
 .rintro e w' ⟨h,G,i⟩;exact⟨h,⟨_,G,j.del L (o.entries mG)⟩,i⟩
def Kk(U U':AT)(S r n:Nat)(w h:Int)(t:BY)(sh:Fd)(mv:Int->Int)(text:BY)(q:Except (Option (Nat×Nat)) (List Nd))(e:Ending):Prop:=match q with
 |.error x=>e=Rw (.tuple #[Iq (gG x:Int),Iq (mC x:Int)])/\Bq U U'
 |.ok L=>e=Rw (.tuple #[Iq 0,Iq 0])/\iX U' S w h text r sh/\Mp U' r n (λk=>if lq L k<0 then 0 else mv k)/\Fs S r U U'
def wD(S r n:Nat)(w h:Int)(t:BY)(sh:Fd)(mv:Int->Int)(text:BY)(E:zzi)(U:AT)(hG:qK U E)(hA:ee U E)(hE:qJ U)(hS:iX U S w h t r sh)(hM:Mp U r n mv)(T:S≠r):
 Cw 8 #[Pq S,.string text] U λe U'=>Kk U U' S r n w h t sh mv text (bv text) e:=by
 have R:=qH<|tparse_any text E U hG hA hE;have P:=qH hS;have HM:=qH hM;have zo:=hS.lt;have zh:=hM.lt;clear hG hA hE hS hM;cases M:bv text with
 |error x=>
  have hx:(gG x:Int)≠0:=by have:=lH M;omega
  have zq:((gG x:Int)!=0)=true:=by simpa using hx
  rw[M]at R;unfold Kk;obtain⟨c,hc⟩:∃z:Int,(gG x:Int)=z:=⟨_,rfl⟩;obtain⟨d,hd⟩:∃z:Int,(mC x:Int)=z:=⟨_,rfl⟩;have A:Hid (Cw 29 #[.string text] U λe w'=>e=Rw (.tuple #[.slice none 0 0,Iq c,Iq d])/\Hid (Bq U w')):=R.out.mono λe w' q=>⟨by have:=q.2;dsimp only at this;rw[hc,hd]at this;exact this,q.1⟩;dsimp only;rw[hc]at hx zq|-;rw[hd];clear M hc hd R P HM;go_enter func8,ntmps8;go_wp2_with(go_at_call 29;refine Ut A ?_;rintro I j);refine bodyPost_ret (results_tmp2 rfl _ _ _) rfl ?_;exact⟨rfl,j.out.alloc j.out.size _⟩
 |ok L=>
  have hT:ep text L:=ea (de M);have l:=hT.pos;have X:=hT.vl.cnt;have A:Hid (Cw 29 #[.string text] U λe w'=>∃g i,e=Rw (.tuple #[Sq g L.length i,Iq 0,Iq 0])/\Hid (Dd w' g L)/\Hid (U.heap.size<=g)/\Hid (Bq U w')):=by
   refine R.out.mono ?_;rintro e w' ⟨V,q⟩;rw[M]at q;obtain⟨nv,KV,q1,q2⟩:=q;obtain⟨g,i,rfl⟩:∃g i,nv=Sq g L.length i:=by obtain⟨xs,hx⟩:=q2.nr.row;grind[cm]
   exact⟨g,i,q1,(q2.ndc l).1,(q2.ndc l).2,V⟩
  have DL:Hid (∀g i nb u,Dd u g L->u.cell? (aq nb 0)=some (Sq g L.length i)->Mp u r n mv->g≠r->nb≠r->Cw 30 #[.map (some r),.func (.func 31) #[] #[Pq nb]] u λe u'=>e=Rw (.tuple #[])/\Hid (Mp u' r n (λk=>if lq L k<0 then 0 else mv k))/\Hid (u.grownBy u' (some r))):=λg i nb u h1 h2 h3 h4 h5=>Gp g i nb r n mv u h1 X h2 h3 h4 h5;unfold Kk;dsimp only;obtain⟨m,hm⟩:=af L.length;obtain⟨zr,ze⟩:∃f:Int->Int,(λk=>if lq L k<0 then 0 else mv k)=f:=⟨_,rfl⟩;rw[hm]at A DL;rw[ze]at DL|-;clear M hT l R hm ze;go_enter func8,ntmps8;go_wp2_with fail;refine A.mono ?_;rintro e I ⟨g,i,rfl,G,zj,j⟩;have J:iX I S w h t r sh:=(j.block S zo).trans P;have Z:=J.lt;have Y:=G.lt;have zg:r<I.heap.size:=zz006 zh j.out.size;obtain⟨B,hB⟩:=af I.heap.size;obtain⟨o,F⟩:=af (I.alloc (.cells #[Sq g m i] 78));have hk:∀b,b<I.heap.size->o.heap[b]?=I.heap[b]?:=λb V=>by rw[<-F];exact bG _ _ b V
  have O:Hid (iX o S w h t r sh):=(hk S Z).trans J;have zn:Hid (o.heap[B]?=some (.cells #[Sq g m i] 78 (0,0))):=by rw[<-F,<-hB];exact heap_alloc_new _ _
  have zm:Hid (Dd o g L):=G.out.block (hk g Y);have zk:Hid (Mp o r n mv):=(HM.out.below j zh).block (hk r zg);have zi:Hid (Bq U o):=by rw[<-F];exact j.out.alloc j.out.size _
  have y:Hid (g≠r/\B≠r/\g≠S/\B≠S):=by have:=zj.out;refine⟨?_,?_,?_,?_⟩<;>omega
  obtain⟨c0,c1,c2,c3,c4,fz⟩:=O.cell;clear G j J hk Y Z zg;go_wp2_with fail;clear hB F;have K:∀b,b≠S->(o.setCell (aq S 2) (.string text)).heap[b]?=o.heap[b]?:=λb V=>aM o (aq S 2) _ b V;refine Ut (DL g i B _ (zm.out.block (K g y.2.2.1)) ((aQ (a:=(aq B 0)) (K B y.2.2.2)).trans (by simp[World.cell?,zn.out])) (zk.out.block (K r (λe=>T e.symm))) y.1 y.2.1) ?_;rintro U3 ⟨zl,N⟩;go_wp2;refine bodyPost_ret (results_tmp2 rfl _ _ _) rfl ?_;have h2:iX (o.setCell (aq S 2) (.string text)) S w h text r sh:=heap_setCell_same _ S 2 _ _ _ O;exact⟨rfl,(N.block S h2.lt (λe=>T (by injection e))).trans h2,zl,((Fs.of zi).trans (Fs.set _ _ _)).trans (Fs.grown N)⟩
end
section
open Go.RowKit Go.Sort Go.Proofs.Tryz
def tX{s:BY}{L:zza}{Wd:zzb}{H:zzg}(n:ep s L)(hS:Sz L Wd H)(w h id:Int):∃a:Int,0<=a/\a<=100000/\∀(i:Nat) b off c P,lq L id=(i:Int)->i<L.length->cI L Wd H w h b off c P L.length->P i 9=a/\P i 8=min (max 0 (gp id b off c)) a:=by
 rcases scI_is L id with q|⟨i,hi,I,l,z,hid⟩;.exact⟨0,dg,dg,λi b off c P e=>dg⟩
 .by_cases u:∃b off c P,cI L Wd H w h b off c P L.length;.obtain⟨b,off,c,P,g⟩:=u;obtain⟨K,M,N,_⟩:=g.scroll n hi l;have G:=(g.sc i hi hi l).1;have F:=(eE n hi (j:=0) dg).2;have J:=hS.hb _ (P i 2) F;have A:=(g.bd i hi).2.2.2.2.2.2.1;refine⟨P i 9,dg,by unfold eR at G;omega,λj d f o Q e E k=>?_⟩;obtain rfl:i=j:=dg;have y:=(g.size n k (i+1) i dg hi).2.2;have x:=(k.sc i hi hi l).2;rw[z]at x;refine⟨y.symm,?_⟩;rw[x,y];simp[gH,hid]
  .exact⟨0,dg,dg,λj d f o Q e E k=>absurd ⟨_,_,_,_,k⟩ u⟩
def Nw(sc m jm:Int):Ending:=if sc<0 then .returned (.tuple #[Iq 0,Iq 0,Iq 7])else .returned (.tuple #[Iq (min (max 0 m) jm),Iq jm,Iq 0])
def noffset_any(S r n:Nat)(w h:Int)(t:BY)(sh:Fd)(mv:Int->Int)(id f:Int)(E:zzi)(U:AT)(hG:qK U E)(hA:ee U E)(hE:qJ U)(ht:aY U)(hS:iX U S w h t r sh)(hM:Mp U r n mv)(hn:n<=4000000000000){L:zza}(R:bv t=.ok L){Wd:zzb}{H:zzg}(hZ:Sz L Wd H)(zj:1<=w/\w<=400/\1<=h/\h<=400)(hR:∀(i:Nat) b off sn P,lq L id=(i:Int)->i<L.length->cI L Wd H w h b off sn P L.length->P i 9=f/\P i 8=min (max 0 (gp id b off sn)) f):
 Cw 12 #[Pq S,Iq id] U λe U'=>e=Nw (lq L id) (mv id) f/\Bq U U':=by
 have zm:prog.follows .mixedOrders=true:=pt;have hT:=ea (de R);have F:=hT.pos;have A:=hT.vl.cnt;have TP:Hid (Cw 29 #[.string t] U λe w'=>∃g d,e=Rw (.tuple #[Sq g L.length d,Iq 0,Iq 0])/\Hid (Dd w' g L)/\Hid (Bq U w')):=by
  refine(tparse_any t E U hG hA hE).mono ?_;rintro e w' ⟨hb,q⟩;rw[R]at q;obtain⟨nv,KV,V,G⟩:=q;obtain⟨g,d,rfl⟩:∃g d,nv=Sq g L.length d:=by obtain⟨xs,hx⟩:=G.nr.row;grind[cm]
  exact⟨g,d,V,(G.ndc F).1,hb⟩
 have SO:Hid (∀g d u,Dd u g L->Cw 32 #[Sq g L.length d,Iq id] u λe o=>e=Rw (Iq (lq L id))/\Hid (Bq u o)):=λg d u hu=>(scrollOf_any g d id u hu A).mono λe o q=>⟨q.1,q.2.below⟩;have SC:Hid (∀u,Bq U u->Cw 34 #[Pq S] u λe o=>∃p k c,e=Rw (.slice p k c)/\Hid (Bq u o)/\Hid (∃b off,og o p k b off/\(∀a:Addr,p=some a->a.block<o.heap.size)/\k<=4000000000000/\∀id,gp id b off k=mv id)):=λu hu=>by refine(iC S r n w h t sh mv u ((hu.block S hS.lt).trans hS) (hM.below hu hM.lt) hn).mono ?_;rintro e o ⟨p,k,c,b,off,V,G,q3,q4,q5,q6⟩;exact⟨p,k,c,V,q6,b,off,G,q3,q4,q5⟩
 have LY:Hid (∀u p k c,Bq U u->(∃b off,og u p k b off/\(∀a:Addr,p=some a->a.block<u.heap.size)/\k<=4000000000000/\∀id,gp id b off k=mv id)->Cw 36 #[.string t,Iq w,Iq h,.slice p k c] u λe o=>∃T,e=Rw (.tuple #[Sq T L.length L.length,Iq 0,Iq 0])/\Hid (Bq u o)/\Hid (∃P,o.rowIs T 95 (L.length*10) (ss P)/\∀i:Nat,lq L id=(i:Int)->i<L.length->P i 9=f/\P i 8=min (max 0 (mv id)) f)):=λu p k c hu ⟨b,off,G,q3,q4,q5⟩=>by
  refine(layout_at t w h p k c b off E u (hG.cells hu) (hA.below hu) (hE.below hu) (ht.below hu) G dg q3 Wd H (λL' e=>by rw[R]at e;cases e;exact hZ)).mono ?_;rintro e o ⟨hb,z⟩;rw[R]at z;rcases z with⟨z,_⟩|⟨_,T,P,z1,z2,z3,_⟩;.exact absurd zj z
  .refine⟨T,z1,hb,P,z2,λi hi hl=>?_⟩;have:=hR i b off k P hi hl z3;rw[q5 id]at this;exact this
 have y:Hid (∀u,Bq U u->u.cell? (aq S 0)=some (Iq w)/\u.cell? (aq S 1)=some (Iq h)/\u.cell? (aq S 2)=some (.string t)):=λu hu=>by obtain⟨c0,c1,c2,_⟩:=iX.cell (W:=u) ((hu.block S hS.lt).trans hS);exact⟨c0,c1,c2⟩
 have O:=qH<|scI_is L id;have z2:=(y U Ok).2.2;clear hG hA hE ht hS hM hR R hZ hT;obtain⟨m,hm⟩:=af L.length;have ze:=qH hm;obtain⟨sc,K⟩:=af (lq L id);have zk:=qH K;rw[hm]at TP SO LY A;rw[K]at SO LY O|-;clear hm K F;go_enter func12,ntmps12;go_wp2_with(first|(go_at_call 29;refine TP.mono ?_;rintro e U1 ⟨g,d,rfl,N,M⟩)|(go_at_call 32;refine Ut (SO _ _ _ N) ?_;rintro U2 X;have HC2:=qH<|M.trans (X.mono M.size);by_cases zi:sc<0)|fail);.refine bodyPost_ret (results_tmp3 rfl _ _ _) rfl ?_;exact⟨by unfold Nw;rw[if_pos zi];rfl,HC2⟩
 .obtain⟨i,hi,zh⟩:∃i:Nat,i<m/\sc=(i:Int):=by
   rcases O.out with q|⟨i,V,G,_⟩;.omega
   .exact⟨i,by have:=ze.out;omega,G⟩
  subst zh;have I:=qH<|HC2.drew;obtain⟨d0,d1,d2⟩:=y U2 HC2;clear N z2;go_region_held(λW=>W.cell? (aq S 0)=some (Iq w)/\W.cell? (aq S 1)=some (Iq h)/\W.cell? (aq S 2)=some (.string t)) (go_keep) (first
   |(go_at_call 34;refine ag (SC _ I) ?_;rintro e U3 ⟨p,k,c,rfl,Y,HX⟩;have j:=qH<|I.trans (Y.mono I.size);have m0:=(y U3 j).1;have m1:=(y U3 j).2.1;have m2:=(y U3 j).2.2)
   |(go_at_call 36;refine ag (LY _ _ _ _ j HX) ?_;rintro e U4 ⟨T,rfl,Z,HY⟩;have x:=qH<|j.trans (Z.mono j.size);have n0:=(y U4 x).1;have n1:=(y U4 x).2.1;have n2:=(y U4 x).2.2));all_goals obtain⟨P,l,hP⟩:=HY.out;obtain⟨h9,h8⟩:=hP i rfl hi;have q8:=bj l hi (t:=8) dg;have q9:=bj l hi (t:=9) dg;rw[h8]at q8;rw[h9]at q9;have zl:(i:Int)<(m:Int):=dg;obtain⟨o8,J⟩:=af (min (max 0 (mv id)) f);have zg:=qH J;rw[J]at q8;clear J;clear l hP h8 h9 m0 m1 m2 n0 n1 n2 d0 d1 d2;go_wp2_with fail;go_quiet(fail);go_wp2;refine bodyPost_ret (results_tmp3 rfl _ _ _) rfl ?_;exact⟨by unfold Nw;rw[if_neg dg,zg.out];rfl,cE x _⟩
def PD(mv:Int->Int)(id jm lk:Int):Int:=min (max 0 (mv id)) jm+min (max lk (-(min (max 0 (mv id)) jm))) (jm-min (max 0 (mv id)) jm)
def Qp(U U':AT)(S r n:Nat)(w h:Int)(t:BY)(sh:Fd)(mv:Int->Int)(sc id jm lk:Int)(e:Ending):Prop:=if sc<0 then e=Rw (Iq 7)/\Bq U U' else e=Rw (Iq 0)/\iX U' S w h t r sh/\Mp U' r (n+1) (λj=>if j=id then PD mv id jm lk else mv j)/\Fs S r U U'
def nE(S r n:Nat)(w h:Int)(t:BY)(sh:Fd)(mv:Int->Int)(id a b:Int)(E:zzi)(U:AT)(hG:qK U E)(K:ee U E)(M:qJ U)(T:aY U)(hS:iX U S w h t r sh)(l:Mp U r n mv)(z:S≠r)(hn:n<=4000000000000){L:zza}(R:bv t=.ok L){Wd:zzb}{H:zzg}(O:Sz L Wd H)(G:1<=w/\w<=400/\1<=h/\h<=400)(hid:eU id)(A:eU b)(ze:0<=a/\a<=100000)(N:∀(i:Nat) k off V P,lq L id=(i:Int)->i<L.length->cI L Wd H w h k off V P L.length->P i 9=a/\P i 8=min (max 0 (gp id k off V)) a):
 Cw 14 #[Pq S,Iq id,Iq b] U λe Z=>Qp U Z S r n w h t sh mv (lq L id) id a b e:=by
 have OF:=qH<|noffset_any S r n w h t sh mv id a E U hG K M T hS l hn R O G N;have o:=qH hS;have X:=qH l;have y:=hS.lt;have F:=l.lt;clear hG K M T hS l N R O;unfold Nw at OF;generalize lq L id=sc at OF|-;by_cases f:sc<0;.rw[if_pos f]at OF;go_enter func14,ntmps14;go_wp2_with(go_at_call 12;refine Ut OF ?_;rintro I c);go_ret;unfold Qp;rw[if_pos f];exact⟨rfl,c⟩
 .rw[if_neg f]at OF;obtain⟨d,u⟩:=af (min (max 0 (mv id)) a);have ho:0<=d/\d<=a:=dg;have Y:Hid (PD mv id a b=d+min (max b (-d)) (a-d)):=by unfold PD;rw[u];rfl
  rw[u]at OF;clear u;go_enter func14,ntmps14;go_wp2_with(go_at_call 12;refine Ut OF ?_;rintro I c;have g:Hid (iX I S w h t r sh):=(c.block S y).trans o;have c3:=g.cell.2.2.2.1;obtain⟨v,hv⟩:=af (min (max b (-d)) (a-d));have zh:-d<=v/\v<=a-d:=(by unfold eU at A;omega);obtain⟨W2,zg,x,j⟩:=(X.out.below c F).put hid (v:=d+v) (by unfold eU;omega) dg);go_ret;unfold Qp;rw[if_neg dg,Y.out,hv];have J:=g.out;exact⟨rfl,(j.block S J.lt (λe=>z (by injection e))).trans J,x,(Fs.of c).trans (Fs.grown j)⟩
def rS{W H:Nat}{L:zza}{P Q:zzj}:∀k,(∀i,i<k->∀t,t<10->P i t=Q i t)->frK W H L P k=frK W H L Q k
 |0,_=>rfl
 |k+1,h=>by have a:=h k dg;simp only[frK];rw[rS k (λi hi=>h i dg),a 0 dg,a 1 dg,a 2 dg,a 3 dg,a 4 dg,a 5 dg,a 6 dg,a 7 dg]
def cI.offs{L:zza}{Wd:zzb}{H:zzg}{w h:Int}{e off f g:zzb}{j sm:Nat}{P:zzj}(d:cI L Wd H w h e off j P L.length)(k:∀id,gp id e off j=gp id f g sm):cI L Wd H w h f g sm P L.length:=
 ⟨d.root,λi a b c=>by have:=d.sc i a b c;unfold gH at*;rw[k]at this;exact this,d.no,d.kr,d.bd⟩
def gq(L:zza)(Wd:zzb)(Hf:zzg)(W H:Nat)(mv:Int->Int)(C:zzd):Prop:=∃eW off sn P,cI L Wd Hf W H eW off sn P L.length/\(∀id,gp id eW off sn=mv id)/\C=frK W H L P L.length
section
variable{s:BY} {L:zza} {Wd:zzb} {Hf:zzg} {W H:Nat} {mv:Int->Int} {C D:zzd}
def gq.uniq(f:ep s L)(h:gq L Wd Hf W H mv C)(c:gq L Wd Hf W H mv D):C=D:=by obtain⟨g,off,l,P,d,e,rfl⟩:=h;obtain⟨j,k,sm,Q,a,b,rfl⟩:=c;exact rS _ λi hi=>cI.uniq f (d.offs λid=>(e id).trans (b id).symm) a (i+1) i dg hi
end
def Sk(U U':AT)(N n cap:Nat):Prop:=U.heap.size<=N/\n<=cap/\cap<=9223372036854775807
def nscreen_any(S r n W H:Nat)(t:BY)(sh:Fd)(mv:Int->Int)(E:zzi)(U:AT)(hG:qK U E)(V:ee U E)(X:qJ U)(ht:aY U)(hS:iX U S W H t r sh)(J:Mp U r n mv)(hn:n<=4000000000000){L:zza}(K:bv t=.ok L){Wd:zzb}{Hf:zzg}(Y:Sz L Wd Hf)(hW:1<=W/\W<=400)(hH:1<=H/\H<=400):
 Cw 9 #[Pq S] U λe F=>∃N d C,e=Rw (Sq N (W*H) d)/\Hid (Cv 46 F N W H C)/\Hid (gq L Wd Hf W H mv C)/\Hid (Sk U F N (W*H) d)/\Hid (Bq U F):=by
 have ze:prog.follows .mixedOrders=true:=pt;have SC:Hid (∀u,Bq U u->Cw 34 #[Pq S] u λe h=>∃p k c,e=Rw (.slice p k c)/\Hid (Bq u h)/\Hid (∃b off,og h p k b off/\(∀a:Addr,p=some a->a.block<h.heap.size)/\k<=4000000000000/\∀id,gp id b off k=mv id)):=λu hu=>by refine(iC S r n W H t sh mv u ((hu.block S hS.lt).trans hS) (J.below hu J.lt) hn).mono ?_;rintro e h ⟨p,k,c,b,off,q1,M,O,q4,R,q6⟩;exact⟨p,k,c,q1,q6,b,off,M,O,q4,R⟩
 have T:Hid (∀u p k c,Bq U u->(∃b off,og u p k b off/\(∀a:Addr,p=some a->a.block<u.heap.size)/\k<=4000000000000/\∀id,gp id b off k=mv id)->Cw 33 #[.string t,Iq W,Iq H,.slice p k c] u λe h=>∃N d C,e=Rw (.tuple #[Sq N (W*H) d,Iq 0,Iq 0])/\Hid (Cv 46 h N W H C)/\Hid (gq L Wd Hf W H mv C)/\Hid (Sk u h N (W*H) d)/\Hid (Bq u h)):=λu p k c hu ⟨b,off,M,O,q4,R⟩=>by
  refine(Ep t W H p k c b off E u (hG.cells hu) (V.below hu) (X.below hu) (ht.below hu) M dg O Wd Hf (λL' e=>by rw[K]at e;cases e;exact Y)).mono ?_;rintro e h ⟨hb,z⟩;rw[K]at z;rcases z with⟨z,_⟩|⟨W',H',z0,z1,_,_,N,d,P,z2,z3,z4,z5⟩;.exact absurd dg z
  .obtain rfl:W=W':=dg;obtain rfl:H=H':=dg;exact⟨N,d,_,z3,z4,⟨b,off,k,P,z2,R,rfl⟩,z5,hb⟩
 have i:Hid (∀u,Bq U u->u.cell? (aq S 0)=some (Iq W)/\u.cell? (aq S 1)=some (Iq H)/\u.cell? (aq S 2)=some (.string t)):=λu hu=>by obtain⟨c0,c1,c2,_⟩:=iX.cell (W:=u) ((hu.block S hS.lt).trans hS);exact⟨c0,c1,c2⟩
 clear hG V X ht hS J K Y;obtain⟨m,Z⟩:=af (W*H);rw[Z]at T|-;clear Z;have j:=qH<|(ac U.heap.size U).drew;obtain⟨d0,d1,d2⟩:=i U Ok;go_enter func9,ntmps9;go_wp2_with fail;go_region_held(λW'=>W'.cell? (aq S 0)=some (Iq W)/\W'.cell? (aq S 1)=some (Iq H)/\W'.cell? (aq S 2)=some (.string t)) (go_keep) (first
  |(go_at_call 34;refine ag (SC _ j) ?_;rintro e G ⟨p,k,c,rfl,o,HX⟩;have f:=qH<|j.trans (o.mono j.size);have m0:=(i G f).1;have m1:=(i G f).2.1;have m2:=(i G f).2.2)
  |(go_at_call 33;refine ag (T _ _ _ _ f HX) ?_;rintro e I ⟨N,d,C,rfl,A,y,l,x⟩;have g:=qH<|f.trans (x.mono f.size);have n0:=(i I g).1;have n1:=(i I g).2.1;have n2:=(i I g).2.2));all_goals clear m0 m1 m2 n0 n1 n2 d0 d1 d2;go_wp2;go_ret;exact⟨N,d,C,rfl,A,y,⟨aA f.size l.out.1,l.out.2⟩,g⟩
end
section
open Go.RowKit Go.Sort Go.Proofs.Tryz
def jZ:BY:=⟨#[103,97,112]⟩
def gW(n:Int)(u:AT):Cw 28 #[Iq n] u λe a=>e=Rw (.bool (decide (1<=n/\n<=400)))/\a=u:=by
 by_cases b:1<=n;.by_cases c:n<=400;all_goals go_enter func28,ntmps28;go_wp2;go_ret;simp_all
 .go_enter func28,ntmps28;go_wp2;go_ret;exact⟨by simp;omega,rfl⟩
def pW(S r:Nat)(w h x y:Int)(t:BY)(sh:Fd)(b:1<=x/\x<=400/\1<=y/\y<=400)(U:AT)(hS:iX U S w h t r sh):
 Cw 7 #[Pq S,Iq x,Iq y] U λe d=>e=Rw (Iq 0)/\iX d S x y t r (.slice none 0 0)/\Fs S S U d:=by
 have g:Hid (∀u,Cw 28 #[Iq x] u λe c=>e=Rw (.bool true)/\c=u):=λu=>by have:=gW x u;grind
 have i:Hid (∀u,Cw 28 #[Iq y] u λe c=>e=Rw (.bool true)/\c=u):=λu=>by have:=gW y u;grind
 obtain⟨j,c1,c2,c3,c4,k⟩:=hS.cell;have f:=qH hS;clear hS b;go_enter func7,ntmps7;go_wp2_with(first|(go_at_call 28;(with_reducible refine ag (g.out _) ?_);rintro e u5 ⟨rfl,a⟩;obtain rfl:=a.symm)|(go_at_call 28;(with_reducible refine ag (i.out _) ?_);rintro e u5 ⟨rfl,a⟩;obtain rfl:=a.symm));all_goals go_ret;exact⟨rfl,heap_setCell_same _ S 4 _ _ _ (heap_setCell_same _ S 1 _ _ _ (heap_setCell_same _ S 0 _ _ _ f)),((Fs.set _ _ _).trans (Fs.set _ _ _)).trans (Fs.set _ _ _)⟩
def jj(S:Nat)(x y:Int)(b:¬(1<=x/\x<=400/\1<=y/\y<=400))(U:AT):
 Cw 7 #[Pq S,Iq x,Iq y] U λe h=>e=Rw (Iq 6)/\h=U:=by
 by_cases f:1<=x/\x<=400
 .have d:Hid (∀u,Cw 28 #[Iq x] u λe c=>e=Rw (.bool true)/\c=u):=λu=>by have:=gW x u;grind
  have g:Hid (∀u,Cw 28 #[Iq y] u λe c=>e=Rw (.bool false)/\c=u):=λu=>by have:=gW y u;grind
  clear b f;go_enter func7,ntmps7;go_wp2_with(first|(go_at_call 28;(with_reducible refine ag (d.out _) ?_);rintro e u5 ⟨rfl,a⟩;obtain rfl:=a.symm)|(go_at_call 28;(with_reducible refine ag (g.out _) ?_);rintro e u5 ⟨rfl,a⟩;obtain rfl:=a.symm));all_goals go_ret;exact⟨rfl,rfl⟩
 .have d:Hid (∀u,Cw 28 #[Iq x] u λe c=>e=Rw (.bool false)/\c=u):=λu=>by have:=gW x u;grind
  clear b f;go_enter func7,ntmps7;go_wp2_with(go_at_call 28;refine ag (d.out _) ?_;rintro e u5 ⟨rfl,a⟩;obtain rfl:=a.symm);all_goals go_ret;exact⟨rfl,rfl⟩
def Xx(U U':AT)(w h:Int)(e:Ending):Prop:=∃S r,e=Rw (.tuple #[Pq S,Iq 0])/\iX U' S w h jZ r (.slice none 0 0)/\Mp U' r 0 (λ_=>0)/\Bq U U'/\U.heap.size<=r/\r<S
def Mo(w h:Int)(n:1<=w/\w<=400/\1<=h/\h<=400)(U:AT):Cw 15 #[Iq w,Iq h] U λe g=>Xx U g w h e:=by
 obtain⟨R,i⟩:=af U.heap.size;obtain⟨b,a⟩:=af ((U.alloc (.map #[] 0)).alloc (.cells #[Iq 0,Iq 0,.string jZ,.map (some R),.slice none 0 0] 77));have l:iX b (R+1) 0 0 jZ R (.slice none 0 0):=by rw[<-a,<-i,show U.heap.size+1=(U.alloc (.map #[] 0)).heap.size by simp];exact heap_alloc_new _ _
 have f:Hid (Mp b R 0 (λ_=>0)):=by rw[<-a,<-i];exact(Mp.new U).kept (World.grownBy_alloc _ _ none) At
 have c:Hid (Below R U b):=by rw[<-a,<-i];exact(((Gr.refl U).alloc _).alloc _).below
 have RS:Hid (Cw 7 #[Pq (R+1),Iq w,Iq h] b λe g=>e=Rw (Iq 0)/\Hid (iX g (R+1) w h jZ R (.slice none 0 0))/\Hid (Fs (R+1) (R+1) b g)):=pW (R+1) R 0 0 w h jZ _ n b l;have j:=qH i;unfold jZ at a;have o:∀w:AT,(Instr.makeMap 75 none).run prog w=.ok (.map (some w.heap.size)) (w.alloc (.map #[] 0)):=λ_=>rfl;go_enter func15,ntmps15;go_wp2_with(go_at_call 7;refine Ut RS ?_;rintro x ⟨k,d⟩);refine bodyPost_ret (results_tmp2 rfl _ _ _) rfl ?_;have u:=f.out.lt;refine⟨R+1,R,rfl,k,f.out.block (d.block R u dg dg),?_,by rw[j.out];omega,dg⟩;have q:=c.out.trans (d.out.below dg dg (by have:=c.out.size;have:=j.out;omega));rw[<-j.out]at q;exact q
def Iz(w h:Int)(b:¬(1<=w/\w<=400/\1<=h/\h<=400))(U:AT):Cw 15 #[Iq w,Iq h] U λe a=>e=Rw (.tuple #[.pointer none,Iq 6])/\Bq U a:=by have RS:Hid (∀S u,Cw 7 #[Pq S,Iq w,Iq h] u λe a=>e=Rw (Iq 6)/\a=u):=λS u=>jj S w h b u;have c:∀w:AT,(Instr.makeMap 75 none).run prog w=.ok (.map (some w.heap.size)) (w.alloc (.map #[] 0)):=λ_=>rfl;go_enter func15,ntmps15;go_wp2_with(go_at_call 7;refine Ut (RS _ _) ?_;rintro d rfl);refine bodyPost_ret (results_tmp2 rfl _ _ _) rfl ?_;exact⟨rfl,(((Gr.refl U).alloc _).alloc _).below⟩
def OI:∃L,bv jZ=.ok L:=⟨_,rfl⟩
def I'(w h:Int)(a:1<=w/\w<=400/\1<=h/\h<=400)(U:AT):Cw 16 #[Iq w,Iq h] U λe b=>e=Rw (.tuple #[Pq U.heap.size,Iq 0])/\b=U.alloc (.cells #[.string jZ,Iq w,Iq h,.slice none 0 0,.bool true] 102):=by obtain⟨c,d,f,g⟩:=a;have t1:¬w<1:=dg;have t2:¬400<w:=dg;have t3:¬h<1:=dg;have t4:¬400<h:=dg;go_enter func16,ntmps16;go_wp2;refine bodyPost_ret (results_tmp2 rfl _ _ _) rfl ?_;exact⟨rfl,rfl⟩
def I_(w h:Int)(c:¬(1<=w/\w<=400/\1<=h/\h<=400))(U:AT):Cw 16 #[Iq w,Iq h] U λe a=>e=Rw (.tuple #[.pointer none,Iq 6])/\a=U:=by have b:w<1\/(¬w<1/\400<w)\/((¬w<1/\¬400<w)/\h<1)\/((¬w<1/\¬400<w)/\¬h<1/\400<h):=dg;rcases b with t1|⟨t1,t2⟩|⟨⟨t1,t2⟩,t3⟩|⟨⟨t1,t2⟩,t3,t4⟩;all_goals go_enter func16,ntmps16;go_wp2;refine bodyPost_ret (results_tmp2 rfl _ _ _) rfl ?_;exact⟨rfl,rfl⟩
section
variable{Q m:Nat} {t:BY} {p q:Int} {v:Fd} {fr:Bool} {w:AT}
def Sg(e:Ending):Prop:=∃x y,e=Rw (.tuple #[Iq x,Iq y])
def Ri(A:Cw 49 #[.string t,Iq p,Iq q,v] w λe V=>J4 p q w e V)(x y:Int):Cw 51 #[.string t,Iq p,Iq q,v,Iq x,Iq y] w λe w'=>PP e/\Bq w w':=by
 go_enter func51,ntmps51;go_wp2_with fail;refine A.mono ?_;rintro e u ⟨b,⟨X,y',rfl,R⟩|⟨g,n,K,pb,pc,rfl,N,P,_⟩⟩
 .have T:(X !=0)=true:=by simpa using R
  go_wp2;go_ret3;exact⟨⟨_,_,_,rfl⟩,b⟩
 replace P:=qH P;have hn:=N.1;replace b:=qH b;clear N A;rcases(by omega:x<0\/(¬x<0/\p<=x)\/(¬x<0/\¬p<=x/\y<0)\/(¬x<0/\¬p<=x/\¬y<0/\q<=y)\/(¬x<0/\¬p<=x/\¬y<0/\¬q<=y))with a|⟨a,d⟩|⟨a,d,h⟩|⟨a,d,h,l⟩|⟨a,d,h,l⟩;rotate_right;focus
  have E:=decide_eq_false a;have F:=decide_eq_false d;have G:=decide_eq_false h;have M:=decide_eq_false l;go_wp2;go_loopw[19,20] (λU o wr=>∃(j:Nat) (z:Int),U=Iq z/\o=Iq j/\j<=n/\Hid (Bq u wr)) (λ_ o _=>n-(intOf o).toNat);.exact⟨0,0,rfl,rfl,LT,Ok⟩
  obtain⟨j,z,rfl,rfl,hj,k⟩:=hrel;by_cases O:j<n;.have i:(j:Int)<n:=dg;have f:=P.out.below k.out;obtain⟨Y,d4⟩:=f.z (j:=j*10+4) dg;obtain⟨Z,d5⟩:=f.z (j:=j*10+5) dg;obtain⟨a6,d6⟩:=f.z (j:=j*10+6) dg;obtain⟨a7,d7⟩:=f.z (j:=j*10+7) dg;clear f;go_wp2_with fail;refine(yI _ _ _ _ _ _ _).mono ?_;rintro e u2 ⟨⟨c,rfl⟩,J⟩;have I:=qH (k.out.trans (J.mono k.out.size));cases c;all_goals go_wp2;exact⟨⟨j+1,_,rfl,by go_num,dg,I⟩,by simp only[intOf];omega⟩
  .have i:¬(j:Int)<n:=dg;go_wp2;go_ret3;exact⟨⟨_,_,_,rfl⟩,b.out.trans (k.out.mono b.out.size)⟩
 all_goals
  try have E:=decide_eq_true a
  try have E:=decide_eq_false a
  try have F:=decide_eq_true d
  try have F:=decide_eq_false d
  try have G:=decide_eq_true h
  try have G:=decide_eq_false h
  try have M:=decide_eq_true l
  go_wp2;go_ret3;exact⟨⟨_,_,_,rfl⟩,b⟩
def Rj(h:uz Q t p q v m fr w)(d:∀u,Bq w u->Cw 49 #[.string t,Iq p,Iq q,v] u λe j=>J4 p q u e j)(x y:Int):Cw 24 #[Pq Q,Iq x,Iq y] w λe w'=>Sg e/\Bq w w':=by
 have i:prog.follows .mixedOrders=true:=pt;obtain⟨⟨g,c1,c2,c3,c4⟩,_⟩:=LX h.sb;have c:Hid (Bq w w.drew):=Ok.drew;have b:=qH (Ri (d _ c) x y);clear h d c4;go_enter func24,ntmps24;go_wp2_with fail;go_region_held(λu=>u.cell? (aq Q 0)=some (.string t)/\u.cell? (aq Q 1)=some (Iq p)/\u.cell? (aq Q 2)=some (Iq q)/\u.cell? (aq Q 3)=some v) (go_keep) (first
  |(go_at_call 51;refine ag b.out ?_;rintro e u3 ⟨⟨k,l,n,rfl⟩,f⟩;have a:=qH<|c.out.trans f;have d0:=aV a.out g;have d1:=aV a.out c1;have d2:=aV a.out c2;have d3:=aV a.out c3;clear f));all_goals clear d0 d1 d2 d3 g c1 c2 c3 b;go_wp2;go_ret2;exact⟨⟨_,_,rfl⟩,a⟩
end
def Tc(t:BY)(w h:Int)(sp:zze)(n M:Nat)(l off:zzb)(x y:Int)(E:zzi)(U:AT)(hG:qK U E)(Y:ee U E)(Z:qJ U)(A:aY U)(k:og U sp n l off)(I:n<=4611686018427387904)(J:∀a:Addr,sp=some a->a.block<U.heap.size){L:zza}(z:bv t=.ok L){Wd:zzb}{H:zzg}(hZ:Sz L Wd H)(hr:1<=w/\w<=400/\1<=h/\h<=400):
 Cw 50 #[.string t,Iq w,Iq h,.slice sp n M,Iq x,Iq y] U λe u=>PP e/\Bq U u:=by
 have j:=(ea (de z)).vl.cnt;obtain⟨N,G⟩:=af L.length;have R:Hid (Cw 36 #[.string t,Iq w,Iq h,.slice sp n M] U λe u=>∃f,e=Rw (.tuple #[Sq f N N,Iq 0,Iq 0])/\Hid (Bq U u/\∃P,u.rowIs f 95 (N*10) (ss P))):=(layout_at t w h sp n M l off E U hG Y Z A k I J Wd H λL' e=>by rw[z]at e;cases e;exact hZ).mono λe w' q=>by
  rw[z]at q;obtain⟨hb,⟨q,_⟩|⟨_,f,P,q2,q3,_⟩⟩:=q;.exact absurd hr q
  .rw[G]at q2 q3;exact⟨f,q2,hb,P,q3⟩
 rw[G]at j;clear hG Y Z A k z hZ G hr;go_enter func50,ntmps50;go_wp2_with(go_at_call 36;refine R.mono ?_;rintro e T ⟨f,rfl,O⟩);obtain⟨d,P,F⟩:=id O.out;replace d:=qH d;replace F:=qH F;clear O R;go_loopw[18] (λK wr=>∃m:Nat,m<=N/\K=Iq ((m:Int)-1)/\Hid (Bq T wr)) (λK _=>(intOf K+1).toNat);.exact⟨N,LE,rfl,Ok⟩
 obtain⟨m,hm,rfl,o⟩:=hrel;by_cases h0:m=0;.subst h0;have e1:decide (0<=((0:Nat):Int)-1)=false:=rfl;go_wp2;refine bodyPost_ret (results_tmp3 rfl _ _ _) rfl ?_;exact⟨⟨_,_,_,rfl⟩,d.out.trans (o.mono d.out.size)⟩
 .obtain⟨i,rfl⟩:∃i,m=i+1:=⟨m-1,dg⟩;rw[show((i+1:Nat):Int)-1=(i:Int)by omega];have ze:(0:Int)<=(i:Int):=dg;have zg:(i:Int)<(N:Int):=dg;have b:∀t,t<10->wr.cell? (aq f (i*10+t))=some (Iq (P i t)):=λt A=>by have:=bj F.out (c:=i) (t:=t) dg A;exact(aQ (o.block f (nR T _ this))).trans this
  have y4:=b 4 dg;have y5:=b 5 dg;have y6:=b 6 dg;have y7:=b 7 dg;generalize P i 4=c4 at y4;generalize P i 5=c5 at y5;generalize P i 6=V at y6;generalize P i 7=X at y7;clear b;go_wp2_with(go_at_call 85;refine Ut (DZ c4 c5 V X x y _) ?_;rintro u2 b2;have g:=qH (o.out.trans (b2.below.mono o.out.size));generalize lJ c4 c5 V X x y=bb);cases bb;all_goals
   go_wp2;first
    |(refine bodyPost_ret (results_tmp3 rfl _ _ _) rfl ?_;exact⟨⟨_,_,_,rfl⟩,d.out.trans (g.out.mono d.out.size)⟩)
    |exact⟨⟨i,dg,by go_num,g⟩,by simp only[intOf];omega⟩
def Ul(S r n:Nat)(w h:Int)(t:BY)(sh:Fd)(mv:Int->Int)(x y:Int)(E:zzi)(U:AT)(hG:qK U E)(l:ee U E)(o:qJ U)(F:aY U)(hS:iX U S w h t r sh)(i:Mp U r n mv)(M:n<=4000000000000){L:zza}(A:bv t=.ok L){Wd:zzb}{H:zzg}(z:Sz L Wd H)(N:1<=w/\w<=400/\1<=h/\h<=400):Cw 23 #[Pq S,Iq x,Iq y] U λe J=>Sg e/\Bq U J:=by
 have K:prog.follows .mixedOrders=true:=pt;have f:=qH<|(ac U.heap.size U).drew;have I:Hid (Cw 34 #[Pq S] U.drew λe g=>∃p k c,e=Rw (.slice p k c)/\Hid (Bq U g)/\Hid (Cw 50 #[.string t,Iq w,Iq h,.slice p k c,Iq x,Iq y] g λe u2=>PP e/\Hid (Bq U u2))):=(iC S r n w h t sh mv U.drew hS (i.below f i.lt) M).mono λe g ⟨p,k,c,j,off,Y,Z,q3,q4,q5,q6⟩=>by have d:Bq U g:=f.out.trans q6;exact⟨p,k,c,Y,d,(Tc t w h p k c j off x y E g (hG.cells d) (l.below d) (o.below d) (F.below d) Z dg q3 A z N).mono λe u2 ⟨z1,z2⟩=>⟨z1,d.trans (z2.mono d.size)⟩⟩
 obtain⟨d0,d1,d2,_⟩:=hS.cell;clear hG l o F hS i A z;go_enter func23,ntmps23;go_wp2_with fail;go_region_held(λu=>u.cell? (aq S 0)=some (Iq w)/\u.cell? (aq S 1)=some (Iq h)/\u.cell? (aq S 2)=some (.string t)) (go_keep) (first
  |(go_at_call 34;refine ag I.out ?_;rintro e U3 ⟨p,k,c,rfl,b,G⟩;have O:=aV b.out d0;have P:=aV b.out d1;have R:=aV b.out d2)
  |(go_at_call 50;refine ag G.out ?_;rintro e U4 ⟨⟨x4,y4,z4,rfl⟩,a⟩;have T:=aV a.out d0;have V:=aV a.out d1;have X:=aV a.out d2));all_goals clear O P R T V X d0 d1 d2;go_wp2;go_ret2;exact⟨⟨_,_,rfl⟩,a⟩
