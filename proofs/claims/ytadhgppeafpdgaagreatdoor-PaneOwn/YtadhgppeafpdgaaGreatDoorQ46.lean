import Derived.Test.YtadhgppeafpdgaaGreatDoorQ45
import Derived.Test.YtadhgppeafpdgaaGreatDoorQ21
import Derived.Shelf.SlMaps.DeleteFunc
import Derived.Test.YtadhgppeafpdgaaGreatDoorQ44
set_option linter.all false
set_option maxRecDepth 100000
set_option maxHeartbeats 16000000
namespace Go.Proofs.YtadhgppeafpdgaaGreatDoor
end Go.Proofs.YtadhgppeafpdgaaGreatDoor
namespace Go.Proofs
open Go.Shelf
shelf_lay_g SlLaysDf.n5 Slmd 5 at Tryz 20 as Tryz.delLaid
end Go.Proofs
namespace Go.Proofs.YtadhgppeafpdgaaGreatDoor
section
open Go.RowKit Go.Sort Go.Proofs.Tryz
structure Fs(S r:Nat)(W W':World):Prop where
 os:W'.os=W.os
 tape:W'.tape=W.tape
 output:W'.output=W.output
 size:W.heap.size<=W'.heap.size
 block:∀b,b<W.heap.size->b≠S->b≠r->W'.heap[b]?=W.heap[b]?
section
variable{S r B:Nat} {W0 W W' W2:World}
theorem Fs.of(h:Bt W W'):Fs S r W W':=⟨h.os,h.tape,h.output,h.size,fun b hb _ _=>h.block b hb⟩
theorem Fs.trans(h:Fs S r W W')(k:Fs S r W' W2):Fs S r W W2:=
 ⟨k.os.trans h.os,k.tape.trans h.tape,k.output.trans h.output,aH h.size k.size,fun b h1 h2 h3=>(k.block b (zz007 h1 h.size) h2 h3).trans (h.block b h1 h2 h3)⟩
theorem Fs.grown(h:W.grownBy W' (some r)):Fs S r W W':=⟨h.os,h.tape,h.output,h.size,fun b h1 h2 h3=>h.block b h1 fun e=>h3 (by injection e)⟩
theorem Fs.one(h:Fs S S W W'):Fs S r W W':=⟨h.os,h.tape,h.output,h.size,fun b h1 h2 _=>h.block b h1 h2 h2⟩
theorem Fs.set(W:World)(o:Nat)(v:Value):Fs S r W (W.setCell (aq S o) v):=⟨rfl,rfl,rfl,by simp,fun b _ h2 _=>bv W (aq S o) v b h2⟩
theorem Fs.below(h:Fs S r W W')(hS:B<=S)(hr:B<=r)(hB:B<=W.heap.size):Below B W W':=⟨h.os,h.tape,h.output,h.size,fun b hb=>h.block b (by omega) (by omega) (by omega)⟩
end
def K2(L:List Nd):Lit->DataW Unit->Bool
 |.int _ k,_=>decide (sD L k<0)
 |_,_=>false
theorem MpD.del{D:DataW Unit}{mv:Int->Int}(L:List Nd)(h:MpD D mv)(hD:∃es,D=.map es/\es.Pairwise (fun p q=>p.1≠q.1)/\∀p∈es,WideAt.IsKeyLit p.1):MpD (Lib.deleteFuncD (K2 L) D) (fun k=>if sD L k<0 then 0 else mv k):=by
 obtain⟨es,rfl,hap,hk⟩:=hD;intro k;have cZ:WideAt.IsKeyLit (.int .i64 k):=trivial;have h0:=h k;show(DataW.map (es.filter fun p=>!K2 L p.1 p.2)).atKey _ _=_;have za3:(∀p∈es,p.1=.int .i64 k->K2 L p.1 p.2=true)->(DataW.map (es.filter fun p=>!K2 L p.1 p.2)).atKey (.int .i64 k) (.lit (.int .i64 0))=.lit (.int .i64 0):=fun q=>by refine Maps.atKey_of_not_has ?_ _;rw[Maps.has_eq,List.any_eq_false];intro p hp hs;obtain⟨vS,hp2⟩:=Ee.1 hp;rw[q p vS (Rr hs)]at hp2;cases hp2
 by_cases hs:sD L k<0;·show _=DataW.lit (.int .i64 (if sD L k<0 then 0 else mv k));rw[if_pos hs];exact za3 fun p _ e=>by rw[e];exact decide_eq_true hs
 ·show _=DataW.lit (.int .i64 (if sD L k<0 then 0 else mv k));rw[if_neg hs];by_cases hm:∃d,(Lit.int .i64 k,d)∈es;·obtain⟨d,hm⟩:=hm;rw[WideAt.atKey_mem _ cZ hap hm]at h0;rw[<-h0];exact WideAt.atKey_mem _ cZ (hap.filter _) (Ee.2 ⟨hm,by simp[K2,hs]⟩)
  ·have hn:∀p∈es,p.1=.int .i64 k->False:=fun p hp e=>hm ⟨p.2,by rw[<-e];exact hp⟩;rw[za3 fun p hp e=>(hn p hp e).elim,<-h0];refine(Maps.atKey_of_not_has ?_ _).symm;rw[Maps.has_eq,List.any_eq_false];exact fun p hp hs=>hn p hp (Rr hs)
theorem Qt{L:List Nd}(g cap nb:Nat)(id v:Int)(U:World)(hV:Ju U g L)(hLn:L.length<=100)(hc:U.cell? (aq nb 0)=some (Sq g L.length cap)):
 Cw 21 (#[Iq id,Iq v]++#[Pq nb]) U fun e U'=>e=Rw (.bool (decide (sD L id<0)))/\Gr U U':=by have SO:=qH<|scrollOf_any g cap id U hV hLn;show Cw 21 #[Iq id,Iq v,Pq nb] U _;generalize L.length=m at SO hc;generalize sD L id=z at SO⊢;clear hV;go_enter func21,ntmps21;go_wp2_with(go_at_call 22;refine SO.mono ?_;rintro e W2 ⟨rfl,X8⟩);all_goals go_ret;exact⟨by simp_all,X8⟩
theorem NY{L:List Nd}(g cap nb r n:Nat)(mv:Int->Int)(U:World)(hV:Ju U g L)(hLn:L.length<=100)(hc:U.cell? (aq nb 0)=some (Sq g L.length cap))(hM:Mp U r n mv)(hg:g≠r)(hn:nb≠r):
 Cw 20 #[.map (some r),.func (.func 21) #[] #[Pq nb]] U fun e U'=>e=Rw (.tuple #[])/\Mp U' r n (fun k=>if sD L k<0 then 0 else mv k)/\U.grownBy U' (some r):=by
 have eg:∀args w,(callFunc 21 args).run prog w=.ok (.enter 21 args) w:=enters_of func21 (by kernel_rfl) rfl;obtain⟨D,hD,hmd⟩:=hM;refine ai (AnyDf.maps_DeleteFunc Tryz.delLaid qp (plainElem prog 3) (K2 L) 21 #[Pq nb] r n D U eg hD fun W key val kl yd yp hgW zgQ hv=>?_) ?_;·obtain⟨x,rfl,rfl,_⟩:=Maps.keyOf_i64 underlying3 zgQ;obtain⟨c,rfl,hy,_⟩:=plainElem_int_inv underlying3 hv;refine(Qt g cap nb x c W (hV.block (hgW.block g hV.lt fun e=>hg (by injection e))) hLn (hgW.cell hc fun e=>hn (by injection e))).mono ?_;rintro e w' ⟨he,hG⟩;exact⟨he,aa hG.below⟩
 ·rintro e w' ⟨he,ho,fd⟩;exact⟨he,⟨_,ho,hmd.del L (hD.entries qp)⟩,fd⟩
def SB(U U':World)(S r n:Nat)(w h:Int)(t:ByteArray)(sh:Value)(mv:Int->Int)(text:ByteArray)(q:Except (Option (Nat×Nat)) (List Nd))(e:Ending):Prop:=match q with
 |.error x=>e=Rw (.tuple #[Iq (jR x:Int),Iq (se x:Int)])/\Bt U U'
 |.ok L=>e=Rw (.tuple #[Iq 0,Iq 0])/\mP U' S w h text r sh/\Mp U' r n (fun k=>if sD L k<0 then 0 else mv k)/\Fs S r U U'
theorem PE(S r n:Nat)(w h:Int)(t:ByteArray)(sh:Value)(mv:Int->Int)(text:ByteArray)(E:Nat->Addr)(U:World)(hG:xe U E)(hA:gj U E)(hE:xd U)(hS:mP U S w h t r sh)(hM:Mp U r n mv)(X':S≠r):
 Cw 10 #[Pq S,.string text] U fun e U'=>SB U U' S r n w h t sh mv text (bJ text) e:=by
 have TP:=qH<|tparse_any text E U hG hA hE;have vO:=qH hS;have HM:=qH hM;have RL:=hS.lt;have oj:=hM.lt;clear hG hA hE hS hM;cases hp:bJ text with
 |error x=>
  have hx:(jR x:Int)≠0:=by have:=zg hp;omega
  have ky:((jR x:Int)!=0)=true:=by simpa using hx
  rw[hp]at TP;unfold SB;obtain⟨c,hc⟩:∃z:Int,(jR x:Int)=z:=⟨_,rfl⟩;obtain⟨d,hd⟩:∃z:Int,(se x:Int)=z:=⟨_,rfl⟩;have XA:Hid (Cw 19 #[.string text] U fun e w'=>e=Rw (.tuple #[.slice none 0 0,Iq c,Iq d])/\Hid (Bt U w')):=TP.out.mono fun e w' q=>⟨by have:=q.2;dsimp only at this;rw[hc,hd]at this;exact this,q.1⟩;dsimp only;rw[hc]at hx ky⊢;rw[hd];clear hp hc hd TP vO HM;go_enter func10,ntmps10;go_wp2_with(go_at_call 19;refine XA.mono ?_;rintro e U1 ⟨rfl,HB1⟩);refine bodyPost_ret (results_tmp2 rfl _ _ _) rfl ?_;exact⟨rfl,HB1.out.alloc HB1.out.size _⟩
 |ok L=>
  have hT:gA text L:=eE (dB hp);have fW:=hT.pos;have nQ:=hT.vl.cnt;have XA:Hid (Cw 19 #[.string text] U fun e w'=>∃g cap,e=Rw (.tuple #[Sq g L.length cap,Iq 0,Iq 0])/\Hid (Ju w' g L)/\Hid (U.heap.size<=g)/\Hid (Bt U w')):=by
   refine TP.out.mono ?_;rintro e w' ⟨hb,q⟩;rw[hp]at q;obtain⟨nv,KV,q1,q2⟩:=q;obtain⟨g,cap,rfl⟩:∃g cap,nv=Sq g L.length cap:=by obtain⟨xs,hx⟩:=q2.nr.row;grind[de]
   exact⟨g,cap,q1,(q2.ndc fW).1,(q2.ndc fW).2,hb⟩
  have DL:Hid (∀g cap nb u,Ju u g L->u.cell? (aq nb 0)=some (Sq g L.length cap)->Mp u r n mv->g≠r->nb≠r->Cw 20 #[.map (some r),.func (.func 21) #[] #[Pq nb]] u fun e u'=>e=Rw (.tuple #[])/\Hid (Mp u' r n (fun k=>if sD L k<0 then 0 else mv k))/\Hid (u.grownBy u' (some r))):=fun g cap nb u h1 h2 h3 h4 h5=>NY g cap nb r n mv u h1 nQ h2 h3 h4 h5;unfold SB;dsimp only;obtain⟨m,hm⟩:=af L.length;obtain⟨mv',hmv⟩:∃f:Int->Int,(fun k=>if sD L k<0 then 0 else mv k)=f:=⟨_,rfl⟩;rw[hm]at XA DL;rw[hmv]at DL⊢;clear hp hT fW TP hm hmv;go_enter func10,ntmps10;go_wp2_with fail;refine XA.mono ?_;rintro e U1 ⟨g,cap,rfl,HN1,HG1,HB1⟩;have hS1:mP U1 S w h t r sh:=(HB1.block S RL).trans vO;have hlt:=hS1.lt;have kM:=HN1.lt;have hrU:r<U1.heap.size:=zz007 oj HB1.out.size;obtain⟨B,hB⟩:=af U1.heap.size;obtain⟨W1,bZ⟩:=af (U1.alloc (.cells #[Sq g m cap] 67));have hk:∀b,b<U1.heap.size->W1.heap[b]?=U1.heap[b]?:=fun b hb=>by rw[<-bZ];exact cG _ _ b hb
  have Mr:Hid (mP W1 S w h t r sh):=(hk S hlt).trans hS1;have HNB:Hid (W1.heap[B]?=some (.cells #[Sq g m cap] 67 (0,0))):=by rw[<-bZ,<-hB];exact heap_alloc_new _ _
  have HN2:Hid (Ju W1 g L):=HN1.out.block (hk g kM);have GB:Hid (Mp W1 r n mv):=(HM.out.below HB1 oj).block (hk r hrU);have HB2:Hid (Bt U W1):=by rw[<-bZ];exact HB1.out.alloc HB1.out.size _
  have HNE:Hid (g≠r/\B≠r/\g≠S/\B≠S):=by have:=HG1.out;refine⟨?_,?_,?_,?_⟩<;>omega
  obtain⟨c0,c1,c2,c3,c4,fz⟩:=Mr.cell;clear HN1 HB1 hS1 hk kM hlt hrU;go_wp2_with fail;clear hB bZ;have key:∀b,b≠S->(W1.setCell (aq S 2) (.string text)).heap[b]?=W1.heap[b]?:=fun b hb=>bv W1 (aq S 2) _ b hb;refine(DL g cap B _ (HN2.out.block (key g HNE.2.2.1)) ((ba (a:=(aq B 0)) (key B HNE.2.2.2)).trans (by simp[World.cell?,HNB.out])) (GB.out.block (key r (fun e=>X' e.symm))) HNE.1 HNE.2.1).mono ?_;rintro e U3 ⟨rfl,Jo,Gy⟩;go_wp2;refine bodyPost_ret (results_tmp2 rfl _ _ _) rfl ?_;have h2:mP (W1.setCell (aq S 2) (.string text)) S w h text r sh:=heap_setCell_same _ S 2 _ _ _ Mr;exact⟨rfl,(Gy.block S h2.lt (fun e=>X' (by injection e))).trans h2,Jo,((Fs.of HB2).trans (Fs.set _ _ _)).trans (Fs.grown Gy)⟩
end
section
open Go.RowKit Go.Sort Go.Proofs.Tryz
theorem UV{s:ByteArray}{L:List Nd}{Wd:Nat->Int}{H:Nat->Int->Int}(hT:gA s L)(hS:Sz L Wd H)(w h id:Int):∃aM:Int,0<=aM/\aM<=100000/\∀(i:Nat) aX off sn P,sD L id=(i:Int)->i<L.length->cQ L Wd H w h aX off sn P L.length->P i 9=aM/\P i 8=min (max 0 (jF id aX off sn)) aM:=by
 rcases scI_is L id with q|⟨i,hi,Hy,h4,ha,hid⟩;·exact⟨0,by omega,by omega,fun i aX off sn P e=>by omega⟩
 ·by_cases ex:∃aX off sn P,cQ L Wd H w h aX off sn P L.length
  ·obtain⟨aX,off,sn,P,hp⟩:=ex;obtain⟨r1,r2,r3,_⟩:=hp.scroll hT hi h4;have hs:=(hp.sc i hi hi h4).1;have hk:=(gD hT hi (j:=0) (by omega)).2;have hb:=hS.hb _ (P i 2) hk;have xF:=(hp.bd i hi).2.2.2.2.2.2.1;refine⟨P i 9,by omega,by unfold gu at hs;omega,fun j zhR Y_ sn' Q e hj hq=>?_⟩;obtain rfl:i=j:=by omega
   have h9:=(hp.size hT hq (i+1) i (by omega) hi).2.2;have h8:=(hq.sc i hi hi h4).2;rw[ha]at h8;refine⟨h9.symm,?_⟩;rw[h8,h9];simp[jE,hid]
  ·exact⟨0,by omega,by omega,fun j zhR Y_ sn' Q e hj hq=>absurd ⟨_,_,_,_,hq⟩ ex⟩
def OfE(sc m aM:Int):Ending:=if sc<0 then .returned (.tuple #[Iq 0,Iq 0,Iq 7])else .returned (.tuple #[Iq (min (max 0 m) aM),Iq aM,Iq 0])
theorem noffset_any(S r n:Nat)(w h:Int)(t:ByteArray)(sh:Value)(mv:Int->Int)(id aM:Int)(E:Nat->Addr)(U:World)(hG:xe U E)(hA:gj U E)(hE:xd U)(ht:aL U)(hS:mP U S w h t r sh)(hM:Mp U r n mv)(hn:n<=4000000000000){L:List Nd}(hp:bJ t=.ok L){Wd:Nat->Int}{H:Nat->Int->Int}(hZ:Sz L Wd H)(B7:1<=w/\w<=400/\1<=h/\h<=400)
 (hR:∀(i:Nat) aX off sn P,sD L id=(i:Int)->i<L.length->cQ L Wd H w h aX off sn P L.length->P i 9=aM/\P i 8=min (max 0 (jF id aX off sn)) aM):
 Cw 23 #[Pq S,Iq id] U fun e U'=>e=OfE (sD L id) (mv id) aM/\Bt U U':=by
 have sV:prog.follows .mixedOrders=true:=by kernel_rfl
 have hT:=eE (dB hp);have fW:=hT.pos;have nQ:=hT.vl.cnt;have TP:Hid (Cw 19 #[.string t] U fun e w'=>∃g cap,e=Rw (.tuple #[Sq g L.length cap,Iq 0,Iq 0])/\Hid (Ju w' g L)/\Hid (Bt U w')):=by
  refine(tparse_any t E U hG hA hE).mono ?_;rintro e w' ⟨hb,q⟩;rw[hp]at q;obtain⟨nv,KV,q1,q2⟩:=q;obtain⟨g,cap,rfl⟩:∃g cap,nv=Sq g L.length cap:=by obtain⟨xs,hx⟩:=q2.nr.row;grind[de]
  exact⟨g,cap,q1,(q2.ndc fW).1,hb⟩
 have SO:Hid (∀g cap u,Ju u g L->Cw 22 #[Sq g L.length cap,Iq id] u fun e u'=>e=Rw (Iq (sD L id))/\Hid (Bt u u')):=fun g cap u hu=>(scrollOf_any g cap id u hu nQ).mono fun e u' q=>⟨q.1,q.2.below⟩;have SC:Hid (∀u,Bt U u->Cw 26 #[Pq S] u fun e u'=>∃p k c,e=Rw (.slice p k c)/\Hid (Bt u u')/\Hid (∃aX off,sN u' p k aX off/\(∀a:Addr,p=some a->a.block<u'.heap.size)/\k<=4000000000000/\∀id,jF id aX off k=mv id)):=fun u hu=>by refine(oW S r n w h t sh mv u ((hu.block S hS.lt).trans hS) (hM.below hu hM.lt) hn).mono ?_;rintro e u' ⟨p,k,c,aX,off,q1,q2,q3,q4,q5,q6⟩;exact⟨p,k,c,q1,q6,aX,off,q2,q3,q4,q5⟩
 have LY:Hid (∀u p k c,Bt U u->(∃aX off,sN u p k aX off/\(∀a:Addr,p=some a->a.block<u.heap.size)/\k<=4000000000000/\∀id,jF id aX off k=mv id)->Cw 40 #[.string t,Iq w,Iq h,.slice p k c] u fun e u'=>∃pb,e=Rw (.tuple #[Sq pb L.length L.length,Iq 0,Iq 0])/\Hid (Bt u u')/\Hid (∃P,u'.rowIs pb 102 (L.length*10) (zM P)/\∀i:Nat,sD L id=(i:Int)->i<L.length->P i 9=aM/\P i 8=min (max 0 (mv id)) aM)):=fun u p k c hu ⟨aX,off,q2,q3,q4,q5⟩=>by
  refine(layout_at t w h p k c aX off E u (hG.cells hu) (hA.below hu) (hE.below hu) (ht.below hu) q2 (by omega) q3 Wd H (fun L' e=>by rw[hp]at e;cases e;exact hZ)).mono ?_;rintro e u' ⟨hb,z⟩;rw[hp]at z;rcases z with⟨z,_⟩|⟨_,pb,P,z1,z2,z3,_⟩;·exact absurd B7 z
  ·refine⟨pb,z1,hb,P,z2,fun i hi hl=>?_⟩;have:=hR i aX off k P hi hl z3;rw[q5 id]at this;exact this
 have HC:Hid (∀u,Bt U u->u.cell? (aq S 0)=some (Iq w)/\u.cell? (aq S 1)=some (Iq h)/\u.cell? (aq S 2)=some (.string t)):=fun u hu=>by obtain⟨c0,c1,c2,_⟩:=mP.cell (W:=u) ((hu.block S hS.lt).trans hS);exact⟨c0,c1,c2⟩
 have Mu:=qH<|scI_is L id;have z2:=(HC U (ag _ _)).2.2;clear hG hA hE ht hS hM hR hp hZ hT;obtain⟨m,hm⟩:=af L.length;have LK:=qH hm;obtain⟨sc,Hy⟩:=af (sD L id);have HSI:=qH Hy;rw[hm]at TP SO LY nQ;rw[Hy]at SO LY Mu⊢;clear hm Hy fW;go_enter func23,ntmps23;go_wp2_with(first|(go_at_call 19;refine TP.mono ?_;rintro e U1 ⟨g,cap,rfl,HN1,HB1⟩)|(go_at_call 22;refine(SO _ _ _ HN1).mono ?_;rintro e U2 ⟨rfl,HB2⟩;have HC2:=qH<|HB1.trans (HB2.mono HB1.size);by_cases hlt:sc<0)|fail);·refine bodyPost_ret (results_tmp3 rfl _ _ _) rfl ?_;exact⟨by unfold OfE;rw[if_pos hlt];rfl,HC2⟩
 ·obtain⟨i,hi,hie⟩:∃i:Nat,i<m/\sc=(i:Int):=by
   rcases Mu.out with q|⟨i,q1,q2,_⟩;·omega
   ·exact⟨i,by have:=LK.out;omega,q2⟩
  subst hie;have HD2:=qH<|HC2.drew;obtain⟨d0,d1,d2⟩:=HC U2 HC2;clear HN1 z2;go_region_held(fun W=>W.cell? (aq S 0)=some (Iq w)/\W.cell? (aq S 1)=some (Iq h)/\W.cell? (aq S 2)=some (.string t)) (go_keep) (first
   |(go_at_call 26;refine ai (SC _ HD2) ?_;rintro e U3 ⟨p,k,c,rfl,fm,HX⟩;have HC3:=qH<|HD2.trans (fm.mono HD2.size);have m0:=(HC U3 HC3).1;have m1:=(HC U3 HC3).2.1;have m2:=(HC U3 HC3).2.2)
   |(go_at_call 40;refine ai (LY _ _ _ _ HC3 HX) ?_;rintro e U4 ⟨pb,rfl,HB4,HY⟩;have Ah:=qH<|HC3.trans (HB4.mono HC3.size);have n0:=(HC U4 Ah).1;have n1:=(HC U4 Ah).2.1;have n2:=(HC U4 Ah).2.2));all_goals
   obtain⟨P,hrow,hP⟩:=HY.out;obtain⟨h9,h8⟩:=hP i rfl hi;have q8:=bu hrow hi (t:=8) (by omega);have q9:=bu hrow hi (t:=9) (by omega);rw[h8]at q8;rw[h9]at q9;have _d:(i:Int)<(m:Int):=by omega
   obtain⟨o8,h8'⟩:=af (min (max 0 (mv id)) aM);have HO8:=qH h8';rw[h8']at q8;clear h8';clear hrow hP h8 h9 m0 m1 m2 n0 n1 n2 d0 d1 d2;go_wp2_with fail;go_quiet(fail);go_wp2;refine bodyPost_ret (results_tmp3 rfl _ _ _) rfl ?_;exact⟨by unfold OfE;rw[if_neg (by omega),HO8.out];rfl,dD Ah _⟩
def Zl(mv:Int->Int)(id aM eG:Int):Int:=min (max 0 (mv id)) aM+min (max eG (-(min (max 0 (mv id)) aM))) (aM-min (max 0 (mv id)) aM)
def ScO(U U':World)(S r n:Nat)(w h:Int)(t:ByteArray)(sh:Value)(mv:Int->Int)(sc id aM eG:Int)(e:Ending):Prop:=if sc<0 then e=Rw (Iq 7)/\Bt U U' else e=Rw (Iq 0)/\mP U' S w h t r sh/\Mp U' r (n+1) (fun j=>if j=id then Zl mv id aM eG else mv j)/\Fs S r U U'
theorem C0(S r n:Nat)(w h:Int)(t:ByteArray)(sh:Value)(mv:Int->Int)(id aM eG:Int)(E:Nat->Addr)(U:World)(hG:xe U E)(hA:gj U E)(hE:xd U)(ht:aL U)(hS:mP U S w h t r sh)(hM:Mp U r n mv)(X':S≠r)(hn:n<=4000000000000){L:List Nd}(hp:bJ t=.ok L){Wd:Nat->Int}{H:Nat->Int->Int}(hZ:Sz L Wd H)(B7:1<=w/\w<=400/\1<=h/\h<=400)(hid:iI id)(hby:iI eG)(ux:0<=aM/\aM<=100000)
 (hR:∀(i:Nat) aX off sn P,sD L id=(i:Int)->i<L.length->cQ L Wd H w h aX off sn P L.length->P i 9=aM/\P i 8=min (max 0 (jF id aX off sn)) aM):
 Cw 11 #[Pq S,Iq id,Iq eG] U fun e U'=>ScO U U' S r n w h t sh mv (sD L id) id aM eG e:=by
 have OF:=qH<|noffset_any S r n w h t sh mv id aM E U hG hA hE ht hS hM hn hp hZ B7 hR;have vO:=qH hS;have HM:=qH hM;have RL:=hS.lt;have oj:=hM.lt;clear hG hA hE ht hS hM hR hp hZ;unfold OfE at OF;generalize sD L id=sc at OF⊢;by_cases hlt:sc<0;·rw[if_pos hlt]at OF;go_enter func11,ntmps11;go_wp2_with(go_at_call 23;refine OF.mono ?_;rintro e U1 ⟨rfl,HB1⟩);go_ret;unfold ScO;rw[if_pos hlt];exact⟨rfl,HB1⟩
 ·rw[if_neg hlt]at OF;obtain⟨o8,h8⟩:=af (min (max 0 (mv id)) aM);have ho:0<=o8/\o8<=aM:=by omega
  have HV:Hid (Zl mv id aM eG=o8+min (max eG (-o8)) (aM-o8)):=by unfold Zl;rw[h8];rfl
  rw[h8]at OF;clear h8;go_enter func11,ntmps11;go_wp2_with(go_at_call 23;refine OF.mono ?_;rintro e U1 ⟨rfl,HB1⟩;have Mr:Hid (mP U1 S w h t r sh):=(HB1.block S RL).trans vO;have c3:=Mr.cell.2.2.2.1;obtain⟨v,hv⟩:=af (min (max eG (-o8)) (aM-o8));have hvb:-o8<=v/\v<=aM-o8:=(by unfold iI at hby;omega);obtain⟨W2,hup,Z5,lz⟩:=(HM.out.below HB1 oj).put hid (v:=o8+v) (by unfold iI;omega) (by omega));go_ret;unfold ScO;rw[if_neg (by omega),HV.out,hv];have h1:=Mr.out;exact⟨rfl,(lz.block S h1.lt (fun e=>X' (by injection e))).trans h1,Z5,(Fs.of HB1).trans (Fs.grown lz)⟩
def sf:ByteArray:=⟨#[103,97,112]⟩
theorem jW(n:Int)(u:World):Cw 18 #[Iq n] u fun e u'=>e=Rw (.bool (decide (1<=n/\n<=400)))/\u'=u:=by
 by_cases h1:1<=n;·by_cases h2:n<=400;all_goals go_enter func18,ntmps18;go_wp2;go_ret;simp_all
 ·go_enter func18,ntmps18;go_wp2;go_ret;exact⟨by simp;omega,rfl⟩
theorem uS(S r:Nat)(w h x y:Int)(t:ByteArray)(sh:Value)(Ay:1<=x/\x<=400/\1<=y/\y<=400)(U:World)(hS:mP U S w h t r sh):
 Cw 8 #[Pq S,Iq x,Iq y] U fun e U'=>e=Rw (Iq 0)/\mP U' S x y t r (.slice none 0 0)/\Fs S S U U':=by
 have S1:Hid (∀u,Cw 18 #[Iq x] u fun e u'=>e=Rw (.bool true)/\u'=u):=fun u=>by have:=jW x u;grind
 have S2:Hid (∀u,Cw 18 #[Iq y] u fun e u'=>e=Rw (.bool true)/\u'=u):=fun u=>by have:=jW y u;grind
 obtain⟨c0,c1,c2,c3,c4,fz⟩:=hS.cell;have HS:=qH hS;clear hS Ay;go_enter func8,ntmps8;go_wp2_with(first|(go_at_call 18;(with_reducible refine ai (S1.out _) ?_);rintro e u5 ⟨rfl,h5⟩;obtain rfl:=h5.symm)|(go_at_call 18;(with_reducible refine ai (S2.out _) ?_);rintro e u5 ⟨rfl,h5⟩;obtain rfl:=h5.symm));all_goals go_ret;exact⟨rfl,heap_setCell_same _ S 4 _ _ _ (heap_setCell_same _ S 1 _ _ _ (heap_setCell_same _ S 0 _ _ _ HS)),((Fs.set _ _ _).trans (Fs.set _ _ _)).trans (Fs.set _ _ _)⟩
theorem rD(S:Nat)(x y:Int)(Ay:¬(1<=x/\x<=400/\1<=y/\y<=400))(U:World):
 Cw 8 #[Pq S,Iq x,Iq y] U fun e U'=>e=Rw (Iq 6)/\U'=U:=by
 by_cases hx:1<=x/\x<=400
 ·have S1:Hid (∀u,Cw 18 #[Iq x] u fun e u'=>e=Rw (.bool true)/\u'=u):=fun u=>by have:=jW x u;grind
  have S2:Hid (∀u,Cw 18 #[Iq y] u fun e u'=>e=Rw (.bool false)/\u'=u):=fun u=>by have:=jW y u;grind
  clear Ay hx;go_enter func8,ntmps8;go_wp2_with(first|(go_at_call 18;(with_reducible refine ai (S1.out _) ?_);rintro e u5 ⟨rfl,h5⟩;obtain rfl:=h5.symm)|(go_at_call 18;(with_reducible refine ai (S2.out _) ?_);rintro e u5 ⟨rfl,h5⟩;obtain rfl:=h5.symm));all_goals go_ret;exact⟨rfl,rfl⟩
 ·have S1:Hid (∀u,Cw 18 #[Iq x] u fun e u'=>e=Rw (.bool false)/\u'=u):=fun u=>by have:=jW x u;grind
  clear Ay hx;go_enter func8,ntmps8;go_wp2_with(go_at_call 18;refine ai (S1.out _) ?_;rintro e u5 ⟨rfl,h5⟩;obtain rfl:=h5.symm);all_goals go_ret;exact⟨rfl,rfl⟩
def NwO(U U':World)(w h:Int)(e:Ending):Prop:=∃S r,e=Rw (.tuple #[Pq S,Iq 0])/\mP U' S w h sf r (.slice none 0 0)/\Mp U' r 0 (fun _=>0)/\Bt U U'/\U.heap.size<=r/\r<S
theorem Uw(w h:Int)(B7:1<=w/\w<=400/\1<=h/\h<=400)(U:World):Cw 4 #[Iq w,Iq h] U fun e U'=>NwO U U' w h e:=by
 obtain⟨R,hR⟩:=af U.heap.size;obtain⟨U1,wA⟩:=af ((U.alloc (.map #[] 0)).alloc (.cells #[Iq 0,Iq 0,.string sf,.map (some R),.slice none 0 0] 51));have hs1:mP U1 (R+1) 0 0 sf R (.slice none 0 0):=by rw[<-wA,<-hR,show U.heap.size+1=(U.alloc (.map #[] 0)).heap.size by simp];exact heap_alloc_new _ _
 have rj:Hid (Mp U1 R 0 (fun _=>0)):=by rw[<-wA,<-hR];exact(Mp.new U).kept (World.grownBy_alloc _ _ none) (by simp)
 have HB1:Hid (Below R U U1):=by rw[<-wA,<-hR];exact(((Gr.refl U).alloc _).alloc _).below
 have RS:Hid (Cw 8 #[Pq (R+1),Iq w,Iq h] U1 fun e U'=>e=Rw (Iq 0)/\Hid (mP U' (R+1) w h sf R (.slice none 0 0))/\Hid (Fs (R+1) (R+1) U1 U')):=uS (R+1) R 0 0 w h sf _ B7 U1 hs1;have HR:=qH hR;unfold sf at wA;have Yz:∀w:World,(Instr.makeMap 49 none).run prog w=.ok (.map (some w.heap.size)) (w.alloc (.map #[] 0)):=fun _=>rfl;go_enter func4,ntmps4;go_wp2_with(go_at_call 8;refine RS.mono ?_;rintro e U2 ⟨rfl,Mt,HF2⟩);refine bodyPost_ret (results_tmp2 rfl _ _ _) rfl ?_;have hl:=rj.out.lt;refine⟨R+1,R,rfl,Mt,rj.out.block (HF2.block R hl (by omega) (by omega)),?_,by rw[HR.out];omega,by omega⟩;have q:=HB1.out.trans (HF2.out.below (by omega) (by omega) (by have:=HB1.out.size;have:=HR.out;omega));rw[<-HR.out]at q;exact q
theorem PD(w h:Int)(B7:¬(1<=w/\w<=400/\1<=h/\h<=400))(U:World):Cw 4 #[Iq w,Iq h] U fun e U'=>e=Rw (.tuple #[.pointer none,Iq 6])/\Bt U U':=by have RS:Hid (∀S u,Cw 8 #[Pq S,Iq w,Iq h] u fun e U'=>e=Rw (Iq 6)/\U'=u):=fun S u=>rD S w h B7 u;have Yz:∀w:World,(Instr.makeMap 49 none).run prog w=.ok (.map (some w.heap.size)) (w.alloc (.map #[] 0)):=fun _=>rfl;go_enter func4,ntmps4;go_wp2_with(go_at_call 8;refine(RS _ _).mono ?_;rintro e U2 ⟨rfl,rfl⟩);refine bodyPost_ret (results_tmp2 rfl _ _ _) rfl ?_;exact⟨rfl,(((Gr.refl U).alloc _).alloc _).below⟩
theorem XW:∃L,bJ sf=.ok L:=⟨_,rfl⟩
theorem Qm(w h:Int)(B7:1<=w/\w<=400/\1<=h/\h<=400)(U:World):Cw 6 #[Iq w,Iq h] U fun e U'=>e=Rw (.tuple #[Pq U.heap.size,Iq 0])/\U'=U.alloc (.cells #[.string sf,Iq w,Iq h,.slice none 0 0,.bool true] 65):=by
 obtain⟨h1,h2,h3,h4⟩:=B7;have t1:¬w<1:=by omega
 have t2:¬400<w:=by omega
 have t3:¬h<1:=by omega
 have t4:¬400<h:=by omega
 go_enter func6,ntmps6;go_wp2;refine bodyPost_ret (results_tmp2 rfl _ _ _) rfl ?_;exact⟨rfl,rfl⟩
theorem Ql(w h:Int)(B7:¬(1<=w/\w<=400/\1<=h/\h<=400))(U:World):Cw 6 #[Iq w,Iq h] U fun e U'=>e=Rw (.tuple #[.pointer none,Iq 6])/\U'=U:=by
 have hb:w<1\/(¬w<1/\400<w)\/((¬w<1/\¬400<w)/\h<1)\/((¬w<1/\¬400<w)/\¬h<1/\400<h):=by omega
 rcases hb with t1|⟨t1,t2⟩|⟨⟨t1,t2⟩,t3⟩|⟨⟨t1,t2⟩,t3,t4⟩;all_goals go_enter func6,ntmps6;go_wp2;refine bodyPost_ret (results_tmp2 rfl _ _ _) rfl ?_;exact⟨rfl,rfl⟩
