import Derived.Test.YtbeiapdobffpiaaGreatDoorQ49
import Derived.Test.YtbeiapdobffpiaaGreatDoorQ30
import Derived.Shelf.SlMaps.DeleteFunc
import Derived.Test.YtbeiapdobffpiaaGreatDoorQ48
namespace Go.Proofs
open Go.Shelf
shelf_lay_g SlLaysDf.n5 Slmd 5 at Tryz 15 as Tryz.delLaid
end Go.Proofs
namespace Go.Proofs.YtbeiapdobffpiaaGreatDoor
open Go.RowKit Go.Sort Go.Proofs.Tryz
set_option linter.all false
/--All zaM but two are as Yv zlc. -/
structure Fs(S r:Nat)(W W':World):Prop where
 os:W'.os=W.os
 tape:W'.tape=W.tape
 output:W'.output=W.output
 size:W.heap.size<=W'.heap.size
 block:∀b,b<W.heap.size->b≠S->b≠r->W'.heap[b]?=W.heap[b]?
section
variable{S r B:Nat} {W0 W W' W2:World}
theorem Fs.of(h:Bt W W'):Fs S r W W':=⟨h.os,h.tape,h.output,h.size,fun b hb _ _=>h.block b hb⟩
theorem Fs.trans(h:Fs S r W W')(k:Fs S r W' W2):Fs S r W W2:=
 ⟨k.os.trans h.os,k.tape.trans h.tape,k.output.trans h.output,aT h.size k.size,fun b h1 h2 h3=>(k.block b (bn h1 h.size) h2 h3).trans (h.block b h1 h2 h3)⟩
theorem Fs.grown(h:W.grownBy W' (some r)):Fs S r W W':=⟨h.os,h.tape,h.output,h.size,fun b h1 h2 h3=>h.block b h1 fun e=>h3 (by injection e)⟩
theorem Fs.one(h:Fs S S W W'):Fs S r W W':=⟨h.os,h.tape,h.output,h.size,fun b h1 h2 _=>h.block b h1 h2 h2⟩
theorem Fs.set(W:World)(o:Nat)(v:Value):Fs S r W (W.setCell (az S o) v):=⟨rfl,rfl,rfl,by simp,fun b _ h2 _=>cF W (az S o) v b h2⟩
theorem Fs.below(h:Fs S r W W')(hS:B<=S)(hr:B<=r)(hB:B<=W.heap.size):Below B W W':=⟨h.os,h.tape,h.output,h.size,fun b hb=>h.block b (by omega) (by omega) (by omega)⟩
end
/--zej entries go: zgb of ids that no scroll of the tree has. -/
def GX(L:List Nd):Lit->DataW Unit->Bool
 |.int _ k,_=>decide (l0 L k<0)
 |_,_=>false
theorem Wb.del{D:DataW Unit}{mv:Int->Int}(L:List Nd)(h:Wb D mv)(hD:∃es,D=.map es/\es.Pairwise (fun p q=>p.1≠q.1)/\∀p∈es,WideAt.IsKeyLit p.1):Wb (Lib.deleteFuncD (GX L) D) (fun k=>if l0 L k<0 then 0 else mv k):=by
 obtain⟨es,rfl,hap,hk⟩:=hD;intro k;have dD:WideAt.IsKeyLit (.int .i64 k):=trivial;have h0:=h k;show(DataW.map (es.filter fun p=>!GX L p.1 p.2)).atKey _ _=_;have WJ:(∀p∈es,p.1=.int .i64 k->GX L p.1 p.2=true)->(DataW.map (es.filter fun p=>!GX L p.1 p.2)).atKey (.int .i64 k) (.lit (.int .i64 0))=.lit (.int .i64 0):=fun q=>by refine Maps.atKey_of_not_has ?_ _;rw[Maps.has_eq,List.any_eq_false];intro p hp hs;obtain⟨Gx,hp2⟩:=Bl.1 hp;rw[q p Gx (MD hs)]at hp2;cases hp2
 by_cases hs:l0 L k<0;·show _=DataW.lit (.int .i64 (if l0 L k<0 then 0 else mv k));rw[if_pos hs];exact WJ fun p _ e=>by rw[e];exact decide_eq_true hs
 ·show _=DataW.lit (.int .i64 (if l0 L k<0 then 0 else mv k));rw[if_neg hs];by_cases hm:∃d,(Lit.int .i64 k,d)∈es;·obtain⟨d,hm⟩:=hm;rw[WideAt.atKey_mem _ dD hap hm]at h0;rw[<-h0];exact WideAt.atKey_mem _ dD (hap.filter _) (Bl.2 ⟨hm,by simp[GX,hs]⟩)
  ·have hn:∀p∈es,p.1=.int .i64 k->False:=fun p hp e=>hm ⟨p.2,by rw[<-e];exact hp⟩;rw[WJ fun p hp e=>(hn p hp e).elim,<-h0];refine(Maps.atKey_of_not_has ?_ _).symm;rw[Maps.has_eq,List.any_eq_false];exact fun p hp hs=>hn p hp (MD hs)
set_option maxRecDepth 100000 in
set_option maxHeartbeats 2000000 in
theorem LG{L:List Nd}(g al nb:Nat)(id v:Int)(U:World)(hV:FC U g L)(hLn:L.length<=100)(hc:U.cell? (az nb 0)=some (Sq g L.length al)):
 Cw 16 (#[Iq id,Iq v]++#[Pq nb]) U fun e U'=>e=Rw (.bool (decide (l0 L id<0)))/\Gr U U':=by have SO:=qH<|scrollOf_any g al id U hV hLn;show Cw 16 #[Iq id,Iq v,Pq nb] U _;generalize L.length=m at SO hc;generalize l0 L id=z at SO⊢;clear hV;go_enter func16,ntmps16;go_wp2_with(go_at_call 17;refine SO.mono ?_;rintro e W2 ⟨rfl,Su⟩);all_goals go_ret;exact⟨by simp_all,Su⟩
/--maps.DeleteFunc,as Set calls it. -/
theorem JG{L:List Nd}(g al nb r n:Nat)(mv:Int->Int)(U:World)(hV:FC U g L)(hLn:L.length<=100)(hc:U.cell? (az nb 0)=some (Sq g L.length al))(hM:Mp U r n mv)(hg:g≠r)(hn:nb≠r):
 Cw 15 #[.map (some r),.func (.func 16) #[] #[Pq nb]] U fun e U'=>e=Rw (.tuple #[])/\Mp U' r n (fun k=>if l0 L k<0 then 0 else mv k)/\U.grownBy U' (some r):=by
 have eg:∀args w,(callFunc 16 args).run prog w=.ok (.enter 16 args) w:=enters_of func16 (by kernel_rfl) rfl;obtain⟨D,hD,XJ⟩:=hM;refine am (AnyDf.maps_DeleteFunc Tryz.delLaid o9 (plainElem prog 3) (GX L) 16 #[Pq nb] r n D U eg hD fun W key val kl yd yp hgW zb9 hv=>?_) ?_;·obtain⟨x,rfl,rfl,_⟩:=Maps.keyOf_i64 underlying3 zb9;obtain⟨c,rfl,hy,_⟩:=plainElem_int_inv underlying3 hv;refine(LG g al nb x c W (hV.block (hgW.block g hV.lt fun e=>hg (by injection e))) hLn (hgW.cell hc fun e=>hn (by injection e))).mono ?_;rintro e w' ⟨he,hG⟩;exact⟨he,ac hG.below⟩
 ·rintro e w' ⟨he,ho,fQ⟩;exact⟨he,⟨_,ho,XJ.del L (hD.entries o9)⟩,fQ⟩
/--NL Set Ea. -/
def NK(U U':World)(S r n:Nat)(w h:Int)(t:ByteArray)(sh:Value)(mv:Int->Int)(text:ByteArray)(q:Except (Option (Nat×Nat)) (List Nd))(e:Ending):Prop:=match q with
 |.error x=>e=Rw (.tuple #[Iq (jy x:Int),Iq (qw x:Int)])/\Bt U U'
 |.ok L=>e=Rw (.tuple #[Iq 0,Iq 0])/\pI U' S w h text r sh/\Mp U' r n (fun k=>if l0 L k<0 then 0 else mv k)/\Fs S r U U'
set_option maxRecDepth 100000 in
set_option maxHeartbeats 4000000 in
theorem K4(S r n:Nat)(w h:Int)(t:ByteArray)(sh:Value)(mv:Int->Int)(text:ByteArray)(E:Nat->Addr)(U:World)(hG:xX U E)(hA:io U E)(hE:xW U)(hS:pI U S w h t r sh)(hM:Mp U r n mv)(Zu:S≠r):
 Cw 5 #[Pq S,.string text] U fun e U'=>NK U U' S r n w h t sh mv text (b9 text) e:=by
 have TP:=qH<|tparse_any text E U hG hA hE;have xJ:=qH hS;have HM:=qH hM;have QL:=hS.lt;have nx:=hM.lt;clear hG hA hE hS hM;cases hp:b9 text with
 |error x=>
  have hx:(jy x:Int)≠0:=by have:=wC hp;omega
  have m6:((jy x:Int)!=0)=true:=by simpa using hx
  rw[hp]at TP;unfold NK;obtain⟨c,hc⟩:∃z:Int,(jy x:Int)=z:=⟨_,rfl⟩;obtain⟨d,hd⟩:∃z:Int,(qw x:Int)=z:=⟨_,rfl⟩;have Zb:Hid (Cw 14 #[.string text] U fun e w'=>e=Rw (.tuple #[.slice none 0 0,Iq c,Iq d])/\Hid (Bt U w')):=TP.out.mono fun e w' q=>⟨by have:=q.2;dsimp only at this;rw[hc,hd]at this;exact this,q.1⟩;dsimp only;rw[hc]at hx m6⊢;rw[hd];clear hp hc hd TP xJ HM;go_enter func5,ntmps5;go_wp2_with(go_at_call 14;refine Zb.mono ?_;rintro e U1 ⟨rfl,HB1⟩);refine bodyPost_ret (results_tmp2 rfl _ _ _) rfl ?_;exact⟨rfl,HB1.out.alloc HB1.out.size _⟩
 |ok L=>
  have hT:dk text L:=eQ (c_ hp);have dL:=hT.pos;have kH:=hT.vl.cnt;have Zb:Hid (Cw 14 #[.string text] U fun e w'=>∃g al,e=Rw (.tuple #[Sq g L.length al,Iq 0,Iq 0])/\Hid (FC w' g L)/\Hid (U.heap.size<=g)/\Hid (Bt U w')):=by
   refine TP.out.mono ?_;rintro e w' ⟨hb,q⟩;rw[hp]at q;obtain⟨nv,KV,q1,q2⟩:=q;obtain⟨g,al,rfl⟩:∃g al,nv=Sq g L.length al:=by obtain⟨xs,hx⟩:=q2.nr.row;grind[cD]
   exact⟨g,al,q1,(q2.ndc dL).1,(q2.ndc dL).2,hb⟩
  have DL:Hid (∀g al nb u,FC u g L->u.cell? (az nb 0)=some (Sq g L.length al)->Mp u r n mv->g≠r->nb≠r->Cw 15 #[.map (some r),.func (.func 16) #[] #[Pq nb]] u fun e u'=>e=Rw (.tuple #[])/\Hid (Mp u' r n (fun k=>if l0 L k<0 then 0 else mv k))/\Hid (u.grownBy u' (some r))):=fun g al nb u h1 h2 h3 h4 h5=>JG g al nb r n mv u h1 kH h2 h3 h4 h5;unfold NK;dsimp only;obtain⟨m,hm⟩:=aj L.length;obtain⟨mv',Vc⟩:∃f:Int->Int,(fun k=>if l0 L k<0 then 0 else mv k)=f:=⟨_,rfl⟩;rw[hm]at Zb DL;rw[Vc]at DL⊢;clear hp hT dL TP hm Vc;go_enter func5,ntmps5;go_wp2_with fail;refine Zb.mono ?_;rintro e U1 ⟨g,al,rfl,HN1,HG1,HB1⟩;have hS1:pI U1 S w h t r sh:=(HB1.block S QL).trans xJ;have hlt:=hS1.lt;have iU:=HN1.lt;have hrU:r<U1.heap.size:=bn nx HB1.out.size;obtain⟨B,hB⟩:=aj U1.heap.size;obtain⟨W1,cE⟩:=aj (U1.alloc (.cells #[Sq g m al] 49));have hk:∀b,b<U1.heap.size->W1.heap[b]?=U1.heap[b]?:=fun b hb=>by rw[<-cE];exact fC _ _ b hb
  have H':Hid (pI W1 S w h t r sh):=(hk S hlt).trans hS1;have YX:Hid (W1.heap[B]?=some (.cells #[Sq g m al] 49 (0,0))):=by rw[<-cE,<-hB];exact heap_alloc_new _ _
  have oC:Hid (FC W1 g L):=HN1.out.block (hk g iU);have BL:Hid (Mp W1 r n mv):=(HM.out.below HB1 nx).block (hk r hrU);have HB2:Hid (Bt U W1):=by rw[<-cE];exact HB1.out.alloc HB1.out.size _
  have YY:Hid (g≠r/\B≠r/\g≠S/\B≠S):=by have:=HG1.out;refine⟨?_,?_,?_,?_⟩<;>omega
  obtain⟨c0,c1,c2,c3,c4,fz⟩:=H'.cell;clear HN1 HB1 hS1 hk iU hlt hrU;go_wp2_with fail;clear hB cE;have key:∀b,b≠S->(W1.setCell (az S 2) (.string text)).heap[b]?=W1.heap[b]?:=fun b hb=>cF W1 (az S 2) _ b hb;refine(DL g al B _ (oC.out.block (key g YY.2.2.1)) ((bU (a:=(az B 0)) (key B YY.2.2.2)).trans (by simp[World.cell?,YX.out])) (BL.out.block (key r (fun e=>Zu e.symm))) YY.1 YY.2.1).mono ?_;rintro e U3 ⟨rfl,IE,BK⟩;go_wp2;refine bodyPost_ret (results_tmp2 rfl _ _ _) rfl ?_;have h2:pI (W1.setCell (az S 2) (.string text)) S w h text r sh:=heap_setCell_same _ S 2 _ _ _ H';exact⟨rfl,(BK.block S h2.lt (fun e=>Zu (by injection e))).trans h2,IE,((Fs.of HB2).trans (Fs.set _ _ _)).trans (Fs.grown BK)⟩
end Go.Proofs.YtbeiapdobffpiaaGreatDoor
namespace Go.Proofs.YtbeiapdobffpiaaGreatDoor
open Go.RowKit Go.Sort Go.Proofs.Tryz
set_option linter.all false
/--How nL aD a scroll has,Yz is Yr. -/
theorem Pv{s:ByteArray}{L:List Nd}{Wd:Nat->Int}{H:Nat->Int->Int}(hT:dk s L)(hS:Sz L Wd H)(w h id:Int):∃aD:Int,0<=aD/\aD<=100000/\∀(i:Nat) aX off sn P,l0 L id=(i:Int)->i<L.length->dV L Wd H w h aX off sn P L.length->P i 9=aD/\P i 8=min (max 0 (kj id aX off sn)) aD:=by
 rcases scI_is L id with q|⟨i,hi,hsc,h4,ha,hid⟩;·exact⟨0,by omega,by omega,fun i aX off sn P e=>by omega⟩
 ·by_cases ex:∃aX off sn P,dV L Wd H w h aX off sn P L.length
  ·obtain⟨aX,off,sn,P,hp⟩:=ex;obtain⟨r1,r2,r3,_⟩:=hp.scroll hT hi h4;have hs:=(hp.sc i hi hi h4).1;have hk:=(de hT hi (j:=0) (by omega)).2;have hb:=hS.hb _ (P i 2) hk;have uG:=(hp.bd i hi).2.2.2.2.2.2.1;refine⟨P i 9,by omega,by unfold dt at hs;omega,fun j zc5 Ym sn' Q e hj hq=>?_⟩;obtain rfl:i=j:=by omega
   have h9:=(hp.size hT hq (i+1) i (by omega) hi).2.2;have h8:=(hq.sc i hi hi h4).2;rw[ha]at h8;refine⟨h9.symm,?_⟩;rw[h8,h9];simp[fw,hid]
  ·exact⟨0,by omega,by omega,fun j zc5 Ym sn' Q e hj hq=>absurd ⟨_,_,_,_,hq⟩ ex⟩
/--NL zaD Ea. -/
def Sc(sc m aD:Int):Ending:=if sc<0 then .returned (.tuple #[Iq 0,Iq 0,Iq 7])else .returned (.tuple #[Iq (min (max 0 m) aD),Iq aD,Iq 0])
set_option maxRecDepth 100000 in
set_option maxHeartbeats 4000000 in
theorem noffset_any(S r n:Nat)(w h:Int)(t:ByteArray)(sh:Value)(mv:Int->Int)(id aD:Int)(E:Nat->Addr)(U:World)(hG:xX U E)(hA:io U E)(hE:xW U)(ht:dC U)(hS:pI U S w h t r sh)(hM:Mp U r n mv)(hn:n<=1000000){L:List Nd}(hp:b9 t=.ok L){Wd:Nat->Int}{H:Nat->Int->Int}(hZ:Sz L Wd H)(o6:1<=w/\w<=400/\1<=h/\h<=400)
 (hR:∀(i:Nat) aX off sn P,l0 L id=(i:Int)->i<L.length->dV L Wd H w h aX off sn P L.length->P i 9=aD/\P i 8=min (max 0 (kj id aX off sn)) aD):
 Cw 7 #[Pq S,Iq id] U fun e U'=>e=Sc (l0 L id) (mv id) aD/\Bt U U':=by
 have mY:prog.follows .mixedOrders=true:=by kernel_rfl
 have hT:=eQ (c_ hp);have dL:=hT.pos;have kH:=hT.vl.cnt;have TP:Hid (Cw 14 #[.string t] U fun e w'=>∃g al,e=Rw (.tuple #[Sq g L.length al,Iq 0,Iq 0])/\Hid (FC w' g L)/\Hid (Bt U w')):=by
  refine(tparse_any t E U hG hA hE).mono ?_;rintro e w' ⟨hb,q⟩;rw[hp]at q;obtain⟨nv,KV,q1,q2⟩:=q;obtain⟨g,al,rfl⟩:∃g al,nv=Sq g L.length al:=by obtain⟨xs,hx⟩:=q2.nr.row;grind[cD]
  exact⟨g,al,q1,(q2.ndc dL).1,hb⟩
 have SO:Hid (∀g al u,FC u g L->Cw 17 #[Sq g L.length al,Iq id] u fun e u'=>e=Rw (Iq (l0 L id))/\Hid (Bt u u')):=fun g al u hu=>(scrollOf_any g al id u hu kH).mono fun e u' q=>⟨q.1,q.2.below⟩;have SC:Hid (∀u,Bt U u->Cw 21 #[Pq S] u fun e u'=>∃p k c,e=Rw (.slice p k c)/\Hid (Bt u u')/\Hid (∃aX off,pH u' p k aX off/\(∀a:Addr,p=some a->a.block<u'.heap.size)/\k<=1000000/\∀id,kj id aX off k=mv id)):=fun u hu=>by refine(xd S r n w h t sh mv u ((hu.block S hS.lt).trans hS) (hM.below hu hM.lt) hn).mono ?_;rintro e u' ⟨p,k,c,aX,off,q1,q2,q3,q4,q5,q6⟩;exact⟨p,k,c,q1,q6,aX,off,q2,q3,q4,q5⟩
 have LY:Hid (∀u p k c,Bt U u->(∃aX off,pH u p k aX off/\(∀a:Addr,p=some a->a.block<u.heap.size)/\k<=1000000/\∀id,kj id aX off k=mv id)->Cw 20 #[.string t,Iq w,Iq h,.slice p k c] u fun e u'=>∃pb,e=Rw (.tuple #[Sq pb L.length L.length,Iq 0,Iq 0])/\Hid (Bt u u')/\Hid (∃P,u'.rowIs pb 76 (L.length*10) (j6 P)/\∀i:Nat,l0 L id=(i:Int)->i<L.length->P i 9=aD/\P i 8=min (max 0 (mv id)) aD)):=fun u p k c hu ⟨aX,off,q2,q3,q4,q5⟩=>by
  refine(GU t w h p k c aX off E u (hG.cells hu) (hA.below hu) (hE.below hu) (ht.below hu) q2 (by omega) q3 Wd H (fun L' e=>by rw[hp]at e;cases e;exact hZ)).mono ?_;rintro e u' ⟨hb,z⟩;rw[hp]at z;rcases z with⟨z,_⟩|⟨_,pb,P,z1,z2,z3,_⟩;·exact absurd o6 z
  ·refine⟨pb,z1,hb,P,z2,fun i hi hl=>?_⟩;have:=hR i aX off k P hi hl z3;rw[q5 id]at this;exact this
 have HC:Hid (∀u,Bt U u->u.cell? (az S 0)=some (Iq w)/\u.cell? (az S 1)=some (Iq h)/\u.cell? (az S 2)=some (.string t)):=fun u hu=>by obtain⟨c0,c1,c2,_⟩:=pI.cell (W:=u) ((hu.block S hS.lt).trans hS);exact⟨c0,c1,c2⟩
 have BO:=qH<|scI_is L id;have z2:=(HC U (ag _ _)).2.2;clear hG hA hE ht hS hM hR hp hZ hT;obtain⟨m,hm⟩:=aj L.length;have H8:=qH hm;obtain⟨sc,hsc⟩:=aj (l0 L id);have HSI:=qH hsc;rw[hm]at TP SO LY kH;rw[hsc]at SO LY BO⊢;clear hm hsc dL;go_enter func7,ntmps7;go_wp2_with(first|(go_at_call 14;refine TP.mono ?_;rintro e U1 ⟨g,al,rfl,HN1,HB1⟩)|(go_at_call 17;refine(SO _ _ _ HN1).mono ?_;rintro e U2 ⟨rfl,HB2⟩;have HC2:=qH<|HB1.trans (HB2.mono HB1.size);by_cases hlt:sc<0)|fail);·refine bodyPost_ret (results_tmp3 rfl _ _ _) rfl ?_;exact⟨by unfold Sc;rw[if_pos hlt];rfl,HC2⟩
 ·obtain⟨i,hi,hie⟩:∃i:Nat,i<m/\sc=(i:Int):=by
   rcases BO.out with q|⟨i,q1,q2,_⟩;·omega
   ·exact⟨i,by have:=H8.out;omega,q2⟩
  subst hie;have HD2:=qH<|HC2.drew;obtain⟨d0,d1,d2⟩:=HC U2 HC2;clear HN1 z2;go_region_held(fun W=>W.cell? (az S 0)=some (Iq w)/\W.cell? (az S 1)=some (Iq h)/\W.cell? (az S 2)=some (.string t)) (go_keep) (first
   |(go_at_call 21;refine am (SC _ HD2) ?_;rintro e U3 ⟨p,k,c,rfl,pF,HX⟩;have HC3:=qH<|HD2.trans (pF.mono HD2.size);have m0:=(HC U3 HC3).1;have m1:=(HC U3 HC3).2.1;have m2:=(HC U3 HC3).2.2)
   |(go_at_call 20;refine am (LY _ _ _ _ HC3 HX) ?_;rintro e U4 ⟨pb,rfl,DZ,HY⟩;have YK:=qH<|HC3.trans (DZ.mono HC3.size);have n0:=(HC U4 YK).1;have n1:=(HC U4 YK).2.1;have n2:=(HC U4 YK).2.2));all_goals
   obtain⟨P,hrow,hP⟩:=HY.out;obtain⟨h9,h8⟩:=hP i rfl hi;have q8:=aW hrow hi (t:=8) (by omega);have q9:=aW hrow hi (t:=9) (by omega);rw[h8]at q8;rw[h9]at q9;have SY:(i:Int)<(m:Int):=by omega
   obtain⟨o8,h8'⟩:=aj (min (max 0 (mv id)) aD);have HO8:=qH h8';rw[h8']at q8;clear h8';clear hrow hP h8 h9 m0 m1 m2 n0 n1 n2 d0 d1 d2;go_wp2_with fail;go_quiet(fail);go_wp2;refine bodyPost_ret (results_tmp3 rfl _ _ _) rfl ?_;exact⟨by unfold Sc;rw[if_neg (by omega),HO8.out];rfl,cI YK _⟩
/--NL zaG zfY of the map. -/
def LC(mv:Int->Int)(id aD fR:Int):Int:=min (max 0 (mv id)) aD+min (max fR (-(min (max 0 (mv id)) aD))) (aD-min (max 0 (mv id)) aD)
def Za(U U':World)(S r n:Nat)(w h:Int)(t:ByteArray)(sh:Value)(mv:Int->Int)(sc id aD fR:Int)(e:Ending):Prop:=if sc<0 then e=Rw (Iq 7)/\Bt U U' else e=Rw (Iq 0)/\pI U' S w h t r sh/\Mp U' r (n+1) (fun j=>if j=id then LC mv id aD fR else mv j)/\Fs S r U U'
set_option maxRecDepth 100000 in
set_option maxHeartbeats 4000000 in
theorem zO(S r n:Nat)(w h:Int)(t:ByteArray)(sh:Value)(mv:Int->Int)(id aD fR:Int)(E:Nat->Addr)(U:World)(hG:xX U E)(hA:io U E)(hE:xW U)(ht:dC U)(hS:pI U S w h t r sh)(hM:Mp U r n mv)(Zu:S≠r)(hn:n<=1000000){L:List Nd}(hp:b9 t=.ok L){Wd:Nat->Int}{H:Nat->Int->Int}(hZ:Sz L Wd H)(o6:1<=w/\w<=400/\1<=h/\h<=400)(hid:iX id)(SQ:iX fR)(zh:0<=aD/\aD<=100000)
 (hR:∀(i:Nat) aX off sn P,l0 L id=(i:Int)->i<L.length->dV L Wd H w h aX off sn P L.length->P i 9=aD/\P i 8=min (max 0 (kj id aX off sn)) aD):
 Cw 10 #[Pq S,Iq id,Iq fR] U fun e U'=>Za U U' S r n w h t sh mv (l0 L id) id aD fR e:=by
 have OF:=qH<|noffset_any S r n w h t sh mv id aD E U hG hA hE ht hS hM hn hp hZ o6 hR;have xJ:=qH hS;have HM:=qH hM;have QL:=hS.lt;have nx:=hM.lt;clear hG hA hE ht hS hM hR hp hZ;unfold Sc at OF;generalize l0 L id=sc at OF⊢;by_cases hlt:sc<0;·rw[if_pos hlt]at OF;go_enter func10,ntmps10;go_wp2_with(go_at_call 7;refine OF.mono ?_;rintro e U1 ⟨rfl,HB1⟩);go_ret;unfold Za;rw[if_pos hlt];exact⟨rfl,HB1⟩
 ·rw[if_neg hlt]at OF;obtain⟨o8,h8⟩:=aj (min (max 0 (mv id)) aD);have ho:0<=o8/\o8<=aD:=by omega
  have HV:Hid (LC mv id aD fR=o8+min (max fR (-o8)) (aD-o8)):=by unfold LC;rw[h8];rfl
  rw[h8]at OF;clear h8;go_enter func10,ntmps10;go_wp2_with(go_at_call 7;refine OF.mono ?_;rintro e U1 ⟨rfl,HB1⟩;have H':Hid (pI U1 S w h t r sh):=(HB1.block S QL).trans xJ;have c3:=H'.cell.2.2.2.1;obtain⟨v,hv⟩:=aj (min (max fR (-o8)) (aD-o8));have hvb:-o8<=v/\v<=aD-o8:=(by unfold iX at SQ;omega);obtain⟨W2,q_,hM2,lN⟩:=(HM.out.below HB1 nx).put hid (v:=o8+v) (by unfold iX;omega) (by omega));go_ret;unfold Za;rw[if_neg (by omega),HV.out,hv];have h1:=H'.out;exact⟨rfl,(lN.block S h1.lt (fun e=>Zu (by injection e))).trans h1,hM2,(Fs.of HB1).trans (Fs.grown lN)⟩
end Go.Proofs.YtbeiapdobffpiaaGreatDoor
namespace Go.Proofs.YtbeiapdobffpiaaGreatDoor
open Go.RowKit Go.Sort Go.Proofs.Tryz
set_option linter.all false
def iA:ByteArray:=⟨#[103,97,112]⟩
set_option maxRecDepth 100000 in
theorem jF(n:Int)(u:World):Cw 40 #[Iq n] u fun e u'=>e=Rw (.bool (decide (1<=n/\n<=400)))/\u'=u:=by
 by_cases h1:1<=n;·by_cases h2:n<=400;all_goals go_enter func40,ntmps40;go_wp2;go_ret;simp_all
 ·go_enter func40,ntmps40;go_wp2;go_ret;exact⟨by simp;omega,rfl⟩
set_option maxRecDepth 100000 in
set_option maxHeartbeats 2000000 in
theorem Dg(S r:Nat)(w h x y:Int)(t:ByteArray)(sh:Value)(zm:1<=x/\x<=400/\1<=y/\y<=400)(U:World)(hS:pI U S w h t r sh):
 Cw 23 #[Pq S,Iq x,Iq y] U fun e U'=>e=Rw (Iq 0)/\pI U' S x y t r (.slice none 0 0)/\Fs S S U U':=by
 have S1:Hid (∀u,Cw 40 #[Iq x] u fun e u'=>e=Rw (.bool true)/\u'=u):=fun u=>by have:=jF x u;grind
 have S2:Hid (∀u,Cw 40 #[Iq y] u fun e u'=>e=Rw (.bool true)/\u'=u):=fun u=>by have:=jF y u;grind
 obtain⟨c0,c1,c2,c3,c4,fz⟩:=hS.cell;have HS:=qH hS;clear hS zm;go_enter func23,ntmps23;go_wp2_with(first|(go_at_call 40;(with_reducible refine am (S1.out _) ?_);rintro e u5 ⟨rfl,h5⟩;obtain rfl:=h5.symm)|(go_at_call 40;(with_reducible refine am (S2.out _) ?_);rintro e u5 ⟨rfl,h5⟩;obtain rfl:=h5.symm));all_goals go_ret;exact⟨rfl,heap_setCell_same _ S 4 _ _ _ (heap_setCell_same _ S 1 _ _ _ (heap_setCell_same _ S 0 _ _ _ HS)),((Fs.set _ _ _).trans (Fs.set _ _ _)).trans (Fs.set _ _ _)⟩
set_option maxRecDepth 100000 in
set_option maxHeartbeats 2000000 in
theorem zN(S:Nat)(x y:Int)(zm:¬(1<=x/\x<=400/\1<=y/\y<=400))(U:World):
 Cw 23 #[Pq S,Iq x,Iq y] U fun e U'=>e=Rw (Iq 6)/\U'=U:=by
 by_cases hx:1<=x/\x<=400
 ·have S1:Hid (∀u,Cw 40 #[Iq x] u fun e u'=>e=Rw (.bool true)/\u'=u):=fun u=>by have:=jF x u;grind
  have S2:Hid (∀u,Cw 40 #[Iq y] u fun e u'=>e=Rw (.bool false)/\u'=u):=fun u=>by have:=jF y u;grind
  clear zm hx;go_enter func23,ntmps23;go_wp2_with(first|(go_at_call 40;(with_reducible refine am (S1.out _) ?_);rintro e u5 ⟨rfl,h5⟩;obtain rfl:=h5.symm)|(go_at_call 40;(with_reducible refine am (S2.out _) ?_);rintro e u5 ⟨rfl,h5⟩;obtain rfl:=h5.symm));all_goals go_ret;exact⟨rfl,rfl⟩
 ·have S1:Hid (∀u,Cw 40 #[Iq x] u fun e u'=>e=Rw (.bool false)/\u'=u):=fun u=>by have:=jF x u;grind
  clear zm hx;go_enter func23,ntmps23;go_wp2_with(go_at_call 40;refine am (S1.out _) ?_;rintro e u5 ⟨rfl,h5⟩;obtain rfl:=h5.symm);all_goals go_ret;exact⟨rfl,rfl⟩
/--A new _f. -/
def NwO(U U':World)(w h:Int)(e:Ending):Prop:=∃S r,e=Rw (.tuple #[Pq S,Iq 0])/\pI U' S w h iA r (.slice none 0 0)/\Mp U' r 0 (fun _=>0)/\Bt U U'/\U.heap.size<=r/\r<S
set_option maxRecDepth 100000 in
set_option maxHeartbeats 2000000 in
theorem Ph(w h:Int)(o6:1<=w/\w<=400/\1<=h/\h<=400)(U:World):Cw 11 #[Iq w,Iq h] U fun e U'=>NwO U U' w h e:=by
 obtain⟨R,hR⟩:=aj U.heap.size;obtain⟨U1,tM⟩:=aj ((U.alloc (.map #[] 0)).alloc (.cells #[Iq 0,Iq 0,.string iA,.map (some R),.slice none 0 0] 55));have hs1:pI U1 (R+1) 0 0 iA R (.slice none 0 0):=by rw[<-tM,<-hR,show U.heap.size+1=(U.alloc (.map #[] 0)).heap.size by simp];exact heap_alloc_new _ _
 have kI:Hid (Mp U1 R 0 (fun _=>0)):=by rw[<-tM,<-hR];exact(Mp.new U).kept (World.grownBy_alloc _ _ none) (by simp)
 have HB1:Hid (Below R U U1):=by rw[<-tM,<-hR];exact(((Gr.refl U).alloc _).alloc _).below
 have RS:Hid (Cw 23 #[Pq (R+1),Iq w,Iq h] U1 fun e U'=>e=Rw (Iq 0)/\Hid (pI U' (R+1) w h iA R (.slice none 0 0))/\Hid (Fs (R+1) (R+1) U1 U')):=Dg (R+1) R 0 0 w h iA _ o6 U1 hs1;have HR:=qH hR;unfold iA at tM;have Tb:∀w:World,(Instr.makeMap 52 none).run prog w=.ok (.map (some w.heap.size)) (w.alloc (.map #[] 0)):=fun _=>rfl;go_enter func11,ntmps11;go_wp2_with(go_at_call 23;refine RS.mono ?_;rintro e U2 ⟨rfl,IL,HF2⟩);refine bodyPost_ret (results_tmp2 rfl _ _ _) rfl ?_;have hl:=kI.out.lt;refine⟨R+1,R,rfl,IL,kI.out.block (HF2.block R hl (by omega) (by omega)),?_,by rw[HR.out];omega,by omega⟩;have q:=HB1.out.trans (HF2.out.below (by omega) (by omega) (by have:=HB1.out.size;have:=HR.out;omega));rw[<-HR.out]at q;exact q
set_option maxRecDepth 100000 in
set_option maxHeartbeats 2000000 in
theorem K3(w h:Int)(o6:¬(1<=w/\w<=400/\1<=h/\h<=400))(U:World):Cw 11 #[Iq w,Iq h] U fun e U'=>e=Rw (.tuple #[.pointer none,Iq 6])/\Bt U U':=by have RS:Hid (∀S u,Cw 23 #[Pq S,Iq w,Iq h] u fun e U'=>e=Rw (Iq 6)/\U'=u):=fun S u=>zN S w h o6 u;have Tb:∀w:World,(Instr.makeMap 52 none).run prog w=.ok (.map (some w.heap.size)) (w.alloc (.map #[] 0)):=fun _=>rfl;go_enter func11,ntmps11;go_wp2_with(go_at_call 23;refine(RS _ _).mono ?_;rintro e U2 ⟨rfl,rfl⟩);refine bodyPost_ret (results_tmp2 rfl _ _ _) rfl ?_;exact⟨rfl,(((Gr.refl U).alloc _).alloc _).below⟩
end Go.Proofs.YtbeiapdobffpiaaGreatDoor
namespace Go.Proofs.YtbeiapdobffpiaaGreatDoor
open Go.RowKit Go.Sort Go.Proofs.Tryz
set_option linter.all false
theorem So:∃L,b9 iA=.ok L:=⟨_,rfl⟩
theorem T9(text:ByteArray):∃L,b9 (Vr iA text)=.ok L:=by
 unfold Vr;cases hp:b9 text with
 |error x=>exact So
 |ok L=>exact⟨L,hp⟩
set_option maxRecDepth 100000 in
set_option maxHeartbeats 2000000 in
theorem Ly(w h:Int)(o6:1<=w/\w<=400/\1<=h/\h<=400)(U:World):Cw 12 #[Iq w,Iq h] U fun e U'=>e=Rw (.tuple #[Pq U.heap.size,Iq 0])/\U'=U.alloc (.cells #[.string iA,Iq w,Iq h,.slice none 0 0,.bool true] 64):=by
 obtain⟨h1,h2,h3,h4⟩:=o6;have t1:¬w<1:=by omega
 have t2:¬400<w:=by omega
 have t3:¬h<1:=by omega
 have t4:¬400<h:=by omega
 go_enter func12,ntmps12;go_wp2;refine bodyPost_ret (results_tmp2 rfl _ _ _) rfl ?_;exact⟨rfl,rfl⟩
set_option maxRecDepth 100000 in
set_option maxHeartbeats 2000000 in
theorem Lx(w h:Int)(o6:¬(1<=w/\w<=400/\1<=h/\h<=400))(U:World):Cw 12 #[Iq w,Iq h] U fun e U'=>e=Rw (.tuple #[.pointer none,Iq 6])/\U'=U:=by
 have hb:w<1\/(¬w<1/\400<w)\/((¬w<1/\¬400<w)/\h<1)\/((¬w<1/\¬400<w)/\¬h<1/\400<h):=by omega
 rcases hb with t1|⟨t1,t2⟩|⟨⟨t1,t2⟩,t3⟩|⟨⟨t1,t2⟩,t3,t4⟩;all_goals go_enter func12,ntmps12;go_wp2;refine bodyPost_ret (results_tmp2 rfl _ _ _) rfl ?_;exact⟨rfl,rfl⟩
/--NL zdb Ea. -/
structure Opn(U U':World)(w h:Int)(x S M T r:Nat):Prop where
 show_:U'.heap[x]?=some (.cells #[Pq S,Pq M,Pq T,.slice none 0 0] 32 (0,0))
 ses:pI U' S w h iA r (.slice none 0 0)
 map:Mp U' r 0 (fun _=>0)
 doc:rt U' M w h iA true
 ne:S≠r/\M≠r/\M≠S/\x≠S/\x≠r/\x≠M
 ge:U.heap.size<=S/\U.heap.size<=r/\U.heap.size<=M/\U.heap.size<=x
 bel:Bt U U'
def OpO(U U':World)(w h:Int)(e:Ending):Prop:=∃x S M T r,e=Rw (.tuple #[Pq x,.bool true])/\Opn U U' w h x S M T r
set_option maxRecDepth 100000 in
set_option maxHeartbeats 2000000 in
theorem G5(w h:Nat)(o6:1<=w/\w<=400/\1<=h/\h<=400)(U:World):Cw 4 #[Iq w,Iq h] U fun e U'=>OpO U U' w h e:=by
 have GB:1<=(w:Int)/\(w:Int)<=400/\1<=(h:Int)/\(h:Int)<=400:=by omega
 have NW:Hid (Cw 11 #[Iq w,Iq h] U fun e U'=>∃S r,e=Rw (.tuple #[Pq S,Iq 0])/\Hid (pI U' S w h iA r (.slice none 0 0)/\Mp U' r 0 (fun _=>0)/\Bt U U'/\U.heap.size<=r/\r<S)):=Ph w h GB U;have NR:Hid (∀u:World,Cw 12 #[Iq w,Iq h] u fun e U'=>e=Rw (.tuple #[Pq u.heap.size,Iq 0])/\U'=u.alloc (.cells #[.string iA,Iq w,Iq h,.slice none 0 0,.bool true] 64)):=fun u=>Ly w h GB u;have NT:Hid (∀u:World,Cw 13 #[Iq w,Iq h] u fun e U'=>∃K,e=Rw (.tuple #[Pq K,Iq 0])/\Hid (Bt u U')):=fun u=>He w h ⟨o6.1,o6.2.1⟩ o6.2.2 u;have NU:Hid (∀n u,Cw 9 #[Iq n] u fun e w'=>e=Rw (Iq n)/\w'=u):=sC;clear o6 GB;go_enter func4,ntmps4;go_wp2_with(first|(go_at_call 11;refine NW.mono ?_;rintro e U1 ⟨S,r,rfl,H1⟩)|(go_at_call 12;refine(NR _).mono ?_;rintro e U2 ⟨rfl,rfl⟩)|(go_at_call 9;refine(NU _ _).mono ?_;rintro e U5 ⟨rfl,h5⟩;obtain rfl:=h5.symm)|(go_at_call 13;refine(NT _).mono ?_;rintro e U3 ⟨T,rfl,H3⟩));refine bodyPost_ret (results_tmp2 rfl _ _ _) rfl ?_;obtain⟨q1,q2,q3,q4,q5⟩:=H1.out;have l1:=q1.lt;have l2:=q2.lt;have l3:=q3.size;have hz:(U1.alloc (.cells #[.string iA,Iq w,Iq h,.slice none 0 0,.bool true] 64)).heap.size=U1.heap.size+1:=by simp
 have hb:=H3.out;have l4:=hb.size;have g1:∀b,b<U1.heap.size->U3.heap[b]?=U1.heap[b]?:=fun b hb1=>(hb.block b (by omega)).trans (((Gr.refl U1).alloc _).block hb1);refine⟨U3.heap.size,S,U1.heap.size,T,r,rfl,heap_alloc_new _ _,?_,?_,?_,⟨by omega,by omega,by omega,by omega,by omega,by omega⟩,⟨by omega,by omega,by omega,by omega⟩,?_⟩;·exact(fC _ _ S (by omega)).trans ((g1 S l1).trans q1)
 ·exact q2.block ((fC _ _ r (by omega)).trans (g1 r l2))
 ·refine(fC _ _ _ (by omega)).trans ((hb.block _ (by omega)).trans ?_);exact heap_alloc_new _ _
 ·exact((q3.alloc l3 _).trans (hb.mono (by omega))).alloc (by omega) _
set_option maxRecDepth 100000 in
set_option maxHeartbeats 2000000 in
theorem Dm(w h:Int)(o6:¬(1<=w/\w<=400/\1<=h/\h<=400))(U:World):Cw 4 #[Iq w,Iq h] U fun e U'=>e=Rw (.tuple #[.pointer none,.bool true])/\Bt U U':=by have NW:Hid (Cw 11 #[Iq w,Iq h] U fun e U'=>e=Rw (.tuple #[.pointer none,Iq 6])/\Hid (Bt U U')):=K3 w h o6 U;have NR:Hid (∀u:World,Cw 12 #[Iq w,Iq h] u fun e U'=>e=Rw (.tuple #[.pointer none,Iq 6])/\U'=u):=fun u=>Lx w h o6 u;have NU:Hid (∀n u,Cw 9 #[Iq n] u fun e w'=>e=Rw (Iq n)/\w'=u):=sC;clear o6;go_enter func4,ntmps4;go_wp2_with(first|(go_at_call 11;refine NW.mono ?_;rintro e U1 ⟨rfl,H1⟩)|(go_at_call 12;refine(NR _).mono ?_;rintro e U2 ⟨rfl,h5⟩;obtain rfl:=h5.symm)|(go_at_call 9;refine(NU _ _).mono ?_;rintro e U5 ⟨rfl,h5⟩;obtain rfl:=h5.symm));refine bodyPost_ret (results_tmp2 rfl _ _ _) rfl ?_;exact⟨rfl,H1⟩
end Go.Proofs.YtbeiapdobffpiaaGreatDoor
namespace Go.Proofs.YtbeiapdobffpiaaGreatDoor
open Go.RowKit Go.Sort Go.Proofs.Tryz
set_option linter.all false
/--zgq Ys,and where Yv are. -/
structure Sx(U0 W:World)(x S M T r:Nat)(w h:Int)(t td:ByteArray)(n:Nat)(mv:Int->Int):Prop where
 sh:W.heap[x]?=some (.cells #[Pq S,Pq M,Pq T,.slice none 0 0] 32 (0,0))
 ses:pI W S w h t r (.slice none 0 0)
 map:Mp W r n mv
 doc:rt W M w h td true
 bel:Bt U0 W
/--zei Yv are,apart from one Zd. -/
def Ap(U0:World)(x S M r:Nat):Prop:=(S≠r/\M≠r/\M≠S/\x≠S/\x≠r/\x≠M)/\U0.heap.size<=S/\U0.heap.size<=r/\U0.heap.size<=M/\U0.heap.size<=x
section
variable{U0 W W':World} {x S M T r n n':Nat} {w h:Int} {t t' td td':ByteArray} {mv mv':Int→Int}
theorem mF{W:World}{b:Nat}{o:Obj}(h:W.heap[b]?=some o):b<W.heap.size:=(aS.1 h).1
theorem Sx.below(q:Sx U0 W x S M T r w h t td n mv)(hb:Bt W W'):Sx U0 W' x S M T r w h t td n mv:=
 ⟨(hb.block x (mF q.sh)).trans q.sh,(hb.block S (mF q.ses)).trans q.ses,q.map.below hb q.map.lt,(hb.block M (mF q.doc)).trans q.doc,q.bel.trans (hb.mono q.bel.size)⟩
theorem Sx.fs(q:Sx U0 W x S M T r w h t td n mv)(ha:Ap U0 x S M r)(hf:Fs S r W W')(hs:pI W' S w h t' r (.slice none 0 0))(hm:Mp W' r n' mv'):Sx U0 W' x S M T r w h t' td n' mv':=by obtain⟨⟨h1,h2,h3,h4,h5,h6⟩,h7,h8,h9,eq⟩:=ha;exact⟨(hf.block x (mF q.sh) h4 h5).trans q.sh,hs,hm,(hf.block M (mF q.doc) h3 h2).trans q.doc,q.bel.trans (hf.below h7 h8 q.bel.size)⟩
theorem Sx.dc(q:Sx U0 W x S M T r w h t td n mv)(ha:Ap U0 x S M r)(hg:W.grownBy W' (some M))(hd:rt W' M w h td' true):Sx U0 W' x S M T r w h t td' n mv:=by obtain⟨⟨h1,h2,h3,h4,h5,h6⟩,h7,h8,h9,eq⟩:=ha;have k:∀b,b<W.heap.size->b≠M->W'.heap[b]?=W.heap[b]?:=fun b hb bG=>hg.block b hb (fun e=>bG (by injection e));exact⟨(k x (mF q.sh) h6).trans q.sh,(k S (mF q.ses) (fun e=>h3 e.symm)).trans q.ses,q.map.block (k r q.map.lt (fun e=>h2 e.symm)),hd,q.bel.grown hg q.bel.size (fun j hj=>by cases hj;exact h9)⟩
end
set_option maxRecDepth 100000 in
set_option maxHeartbeats 16000000 in
theorem sK(w h:Int)(text:ByteArray)(id a b:Int)(hid:iX id)(E:Nat->Addr)(U0:World)(hG:xX U0 E)(hA:io U0 E)(hE:xW U0)(ht:dC U0):
 Cw 3 #[Iq w,Iq h,.string text,Iq id,Iq a,Iq b] U0 fun e U'=>e=Rw (.bool true)/\Bt U0 U':=by
 by_cases o6:1<=w/\w<=400/\1<=h/\h<=400
 ·obtain⟨L,hp⟩:=T9 text;obtain⟨tx,zk⟩:=aj (Vr iA text);rw[zk]at hp;have hT:=eQ (c_ hp);obtain⟨Wd,H,hZ0⟩:=PO tx;have hZ:=hZ0 L hp;obtain⟨aD,zh,hr1,hR⟩:=Pv hT hZ w h id;obtain⟨sc,hsc⟩:=aj (l0 L id);have NU:Hid (∀n u,Cw 9 #[Iq n] u fun e w'=>e=Rw (Iq n)/\w'=u):=sC;have OP:Hid (Cw 4 #[Iq w,Iq h] U0 fun e U'=>∃x S M T r,e=Rw (.tuple #[Pq x,.bool true])/\Hid (Ap U0 x S M r)/\Hid (Sx U0 U' x S M T r w h iA iA 0 (fun _=>0))):=by obtain⟨w',rfl⟩:∃k:Nat,w=k:=⟨w.toNat,by omega⟩;obtain⟨h',rfl⟩:∃k:Nat,h=k:=⟨h.toNat,by omega⟩;refine(G5 w' h' (by omega) U0).mono ?_;rintro e U' ⟨x,S,M,T,r,q1,q2⟩;exact⟨x,S,M,T,r,q1,⟨q2.ne,q2.ge⟩,⟨q2.show_,q2.ses,q2.map,q2.doc,q2.bel⟩⟩
  have ST:Hid (∀u x S M T r,Ap U0 x S M r->Sx U0 u x S M T r w h iA iA 0 (fun _=>0)->Cw 5 #[Pq S,.string text] u fun e U'=>∃v,e=Rw v/\Hid (Sx U0 U' x S M T r w h tx iA 0 (fun _=>0))):=fun u x S M T r ha q=>by
   refine(K4 S r 0 w h iA _ _ text E u (hG.cells q.bel) (hA.below q.bel) (hE.below q.bel) q.ses q.map ha.1.1).mono ?_;intro e U' z;unfold Vr at zk;unfold NK at z;cases hq:b9 text with
   |error y=>rw[hq]at z zk;rw[<-zk];exact⟨_,z.1,q.below z.2⟩
   |ok L'=>rw[hq]at z zk;rw[<-zk];refine⟨_,z.1,q.fs ha z.2.2.2 z.2.1 ?_⟩;have:=z.2.2.1;simpa using this
  have RT:Hid (∀u x S M T r,Ap U0 x S M r->Sx U0 u x S M T r w h tx iA 0 (fun _=>0)->Cw 6 #[Pq M,.string text] u fun e U'=>∃v,e=Rw v/\Hid (Sx U0 U' x S M T r w h tx tx 0 (fun _=>0))):=fun u x S M T r ha q=>by refine(Hd M w h iA text true u q.doc).mono ?_;rintro e U' ⟨v,z1,z2,z3⟩;rw[zk]at z2;exact⟨v,z1,q.dc ha z3 z2⟩
  have OF:Hid (∀u x S M T r n mv,n<=10->Sx U0 u x S M T r w h tx tx n mv->Cw 7 #[Pq S,Iq id] u fun e U'=>e=Sc sc (mv id) aD/\Hid (Sx U0 U' x S M T r w h tx tx n mv)):=fun u x S M T r n mv hn q=>by refine(noffset_any S r n w h tx _ mv id aD E u (hG.cells q.bel) (hA.below q.bel) (hE.below q.bel) (ht.below q.bel) q.ses q.map (by omega) hp hZ o6 hR).mono ?_;rintro e U' ⟨z1,z2⟩;rw[hsc]at z1;exact⟨z1,q.below z2⟩
  have RO:Hid (∀u x S M T r n mv,Sx U0 u x S M T r w h tx tx n mv->Cw 8 #[Pq M,Iq id] u fun e U'=>∃y z,e=Rw (.tuple #[y,z,Iq (if sc<0 then 7 else 0)])/\Hid (Sx U0 U' x S M T r w h tx tx n mv)):=fun u x S M T r n mv q=>by refine(xj M w h tx true id u q.doc hp hZ o6).mono ?_;rintro e U' ⟨y,z,z1,z2⟩;rw[hsc]at z1;exact⟨y,z,z1,q.below z2⟩
  have SR:Hid (∀u x S M T r n mv k,n<=10->iX k->¬sc<0->Ap U0 x S M r->Sx U0 u x S M T r w h tx tx n mv->Cw 10 #[Pq S,Iq id,Iq k] u fun e U'=>e=Rw (Iq 0)/\Hid (Sx U0 U' x S M T r w h tx tx (n+1) (fun j=>if j=id then LC mv id aD k else mv j))):=fun u x S M T r n mv k hn hk hs ha q=>by refine(zO S r n w h tx _ mv id aD k E u (hG.cells q.bel) (hA.below q.bel) (hE.below q.bel) (ht.below q.bel) q.ses q.map ha.1.1 (by omega) hp hZ o6 hid hk ⟨zh,hr1⟩ hR).mono ?_;intro e U' z;unfold Za at z;rw[hsc,if_neg hs]at z;exact⟨z.1,q.fs ha z.2.2.2 z.2.1 z.2.2.1⟩
  have HC:Hid (∀u x S M T r t td n mv,Sx U0 u x S M T r w h t td n mv->u.cell? (az x 0)=some (Pq S)/\u.cell? (az x 1)=some (Pq M)):=fun u x S M T r t td n mv q=>by have:=q.sh;constructor<;>simp[World.cell?,this]
  have Sb:Hid (∀u x S M T r n mv m,n<=10->0<=sc->mv id=m->0<=m->m<=aD->Sx U0 u x S M T r w h tx tx n mv->Cw 7 #[Pq S,Iq id] u fun e U'=>e=Rw (.tuple #[Iq m,Iq aD,Iq 0])/\Hid (Sx U0 U' x S M T r w h tx tx n mv)):=fun u x S M T r n mv m hn hs hm h0 h1 q=>by refine(OF u x S M T r n mv hn q).mono ?_;rintro e U' ⟨z1,z2⟩;unfold Sc at z1;rw[if_neg (by omega),hm,show min (max 0 m) aD=m by omega]at z1;exact⟨z1,z2⟩
  have Y':Hid (∀u x S M T r n mv k m v,n<=10->iX k->0<=sc->mv id=m->0<=m->m<=aD->m+min (max k (-m)) (aD-m)=v->Ap U0 x S M r->Sx U0 u x S M T r w h tx tx n mv->Cw 10 #[Pq S,Iq id,Iq k] u fun e U'=>e=Rw (Iq 0)/\Hid (Sx U0 U' x S M T r w h tx tx (n+1) (fun j=>if j=id then v else mv j))):=fun u x S M T r n mv k m v hn hk hs hm h0 h1 hv ha q=>by have:=SR u x S M T r n mv k hn hk (by omega) ha q;unfold LC at this;rw[hm,show min (max 0 m) aD=m by omega,hv]at this;exact this
  clear hG hA hE ht hp hT hZ hZ0 hR zk o6 SR hsc;go_enter func3,ntmps3;go_wp2_with fail;refine OP.mono ?_;rintro e U1 ⟨x,S,M,T,r,rfl,HA,Uz⟩;obtain⟨s0,s1⟩:=HC _ _ _ _ _ _ _ _ _ _ Uz;go_wp2_with fail;refine(ST _ _ _ _ _ _ HA Uz).mono ?_;rintro e U2 ⟨v2,rfl,tr⟩;clear s0 s1 Uz ST OP;obtain⟨s0,s1⟩:=HC _ _ _ _ _ _ _ _ _ _ tr;go_wp2_with fail;refine(RT _ _ _ _ _ _ HA tr).mono ?_;rintro e U3 ⟨v3,rfl,UA⟩;clear s0 s1 tr RT;obtain⟨s0,s1⟩:=HC _ _ _ _ _ _ _ _ _ _ UA;go_wp2_with fail;by_cases hs:sc<0;·refine(OF _ _ _ _ _ _ _ _ (by omega) UA).mono ?_;rintro e U4 ⟨he,UB⟩;unfold Sc at he;rw[if_pos hs]at he;subst he;clear s0 s1 UA;obtain⟨s0,s1⟩:=HC _ _ _ _ _ _ _ _ _ _ UB;go_wp2_with fail;refine(RO _ _ _ _ _ _ _ _ UB).mono ?_;rintro e U5 ⟨y,z,rfl,UC⟩;rw[if_pos hs];go_wp2_with(go_at_call 9;refine(NU _ _).mono ?_;rintro e U6 ⟨rfl,h6⟩;obtain rfl:=h6.symm);go_ret;exact⟨rfl,UC.out.bel⟩
  ·refine(Sb _ _ _ _ _ _ _ _ 0 (by omega) (by omega) rfl (jL 0) zh UA).mono ?_;rintro e U4 ⟨rfl,UB⟩;clear s0 s1 UA;obtain⟨s0,s1⟩:=HC _ _ _ _ _ _ _ _ _ _ UB;go_wp2_with fail;refine(RO _ _ _ _ _ _ _ _ UB).mono ?_;rintro e U5 ⟨y,z,rfl,UC⟩;rw[if_neg (by omega)];clear s0 s1 UB;obtain⟨s0,s1⟩:=HC _ _ _ _ _ _ _ _ _ _ UC;by_cases hab:0<=a/\a<=100000/\-100000<=b/\b<=100000
   ·obtain⟨a0,a1,b0,b1⟩:=hab;have t1:¬a<0:=by omega
    have t2:¬100000<a:=by omega
    have t3:¬b< -100000:=by omega
    have t4:¬100000<b:=by omega
    obtain⟨u,hu⟩:=aj (min a aD);obtain⟨v,hv⟩:=aj (max 0 (min (u+b) aD));obtain⟨q,hq⟩:=aj (max 0 (min (v-b) aD));have wa:iX a:=by unfold iX;omega
    have wb:iX b:=by unfold iX;omega
    have wc:iX (-b):=by unfold iX;omega
    go_wp2_with(first|(go_at_call 9;refine(NU _ _).mono ?_;rintro e U6 ⟨rfl,h6⟩;obtain rfl:=h6.symm)|fail);refine(Y' _ _ _ _ _ _ _ _ a 0 u (by omega) wa (by omega) rfl (jL 0) zh (by omega) HA UC).mono ?_;rintro e V1 ⟨rfl,HY1⟩;clear s0 s1 UC;obtain⟨s0,s1⟩:=HC _ _ _ _ _ _ _ _ _ _ HY1;go_wp2_with fail;refine(Sb _ _ _ _ _ _ _ _ u (by omega) (by omega) (by simp) (by omega) (by omega) HY1).mono ?_;rintro e V2 ⟨rfl,NE⟩;clear s0 s1 HY1;obtain⟨s0,s1⟩:=HC _ _ _ _ _ _ _ _ _ _ NE;go_wp2_with fail;refine(Y' _ _ _ _ _ _ _ _ b u v (by omega) wb (by omega) (by simp) (by omega) (by omega) (by omega) HA NE).mono ?_;rintro e V3 ⟨rfl,HY3⟩;clear s0 s1 NE;obtain⟨s0,s1⟩:=HC _ _ _ _ _ _ _ _ _ _ HY3;go_wp2_with fail;refine(Sb _ _ _ _ _ _ _ _ v (by omega) (by omega) (by simp) (by omega) (by omega) HY3).mono ?_;rintro e V4 ⟨rfl,HY4⟩;clear s0 s1 HY3;obtain⟨s0,s1⟩:=HC _ _ _ _ _ _ _ _ _ _ HY4;go_wp2_with fail;refine(Y' _ _ _ _ _ _ _ _ (-b) v q (by omega) wc (by omega) (by simp) (by omega) (by omega) (by omega) HA HY4).mono ?_;rintro e V5 ⟨rfl,HY5⟩;clear s0 s1 HY4;obtain⟨s0,s1⟩:=HC _ _ _ _ _ _ _ _ _ _ HY5;go_wp2_with fail;refine(Sb _ _ _ _ _ _ _ _ q (by omega) (by omega) (by simp) (by omega) (by omega) HY5).mono ?_;rintro e V6 ⟨rfl,HY6⟩;clear s0 s1 HY5 Y' Sb OF RO HC HA;go_wp2_with(first|(go_at_call 9;refine(NU _ _).mono ?_;rintro e U6 ⟨rfl,h6⟩;obtain rfl:=h6.symm)|fail);all_goals
     go_ret;refine⟨?_,HY6.out.bel⟩;first
      |rfl
      |(refine congrArg (fun z=>Ending.returned (Value.bool z)) ?_;simp only[beq_iff_eq];omega)
   ·have hb:a<0\/(¬a<0/\100000<a)\/((¬a<0/\¬100000<a)/\b< -100000)\/((¬a<0/\¬100000<a)/\¬b< -100000/\100000<b):=by omega
    rcases hb with t1|⟨t1,t2⟩|⟨⟨t1,t2⟩,t3⟩|⟨⟨t1,t2⟩,t3,t4⟩;all_goals go_wp2_with(go_at_call 9;refine(NU _ _).mono ?_;rintro e U6 ⟨rfl,h6⟩;obtain rfl:=h6.symm);go_ret;exact⟨rfl,UC.out.bel⟩
 ·have OP:Hid (Cw 4 #[Iq w,Iq h] U0 fun e U'=>e=Rw (.tuple #[.pointer none,.bool true])/\Hid (Bt U0 U')):=Dm w h o6 U0;go_enter func3,ntmps3;go_wp2_with(go_at_call 4;refine OP.mono ?_;rintro e U1 ⟨rfl,H1⟩);go_ret;exact⟨rfl,H1⟩
