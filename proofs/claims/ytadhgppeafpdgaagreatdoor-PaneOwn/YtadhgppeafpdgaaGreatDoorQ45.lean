import Derived.Test.YtadhgppeafpdgaaGreatDoorQ25
import Derived.Test.YtadhgppeafpdgaaGreatDoorQ35
import Derived.Lib.SlKeysI
import Derived.Lib.SlMapFilter
import Derived.Test.YtadhgppeafpdgaaGreatDoorQ42
import Derived.Shelf.SlIterI.Sorted
set_option linter.all false
set_option maxRecDepth 100000
set_option maxHeartbeats 16000000
namespace Go.Proofs.YtadhgppeafpdgaaGreatDoor
section
open Go.RowKit Go.Sort Go.Proofs.Tryz
theorem YQ{k:Int}(h:iI k):keyOf prog 3 (Iq k)=some (.int .i64 k):=by have:=h.wf;simp[keyOf,underlying3,mapKey,this]
theorem Gp{k:Int}(h:(Lit.int .i64 k).wf=true):iI k:=by
 have e1:IntKind.i64.min=-9223372036854775808:=by decide
 have e2:IntKind.i64.max=9223372036854775807:=by decide
 simp[Lit.wf,e1,e2]at h;exact h
theorem qp:Maps.Keyed prog 3:=Maps.int_keyed underlying3
def MpD(D:DataW Unit)(mv:Int->Int):Prop:=∀k,D.atKey (.int .i64 k) (.lit (.int .i64 0))=.lit (.int .i64 (mv k))
def Mp(W:World)(r n:Nat)(mv:Int->Int):Prop:=∃D:DataW Unit,W.ownsMap prog 3 (plainElem prog 3) r n D/\MpD D mv
section
variable{W W':World} {r n:Nat} {mv:Int->Int}
theorem Mp.new(w:World):Mp (w.alloc (.map #[] 0)) w.heap.size 0 (fun _=>0):=
 ⟨.map [],World.ownsMap_made w _ _ _,fun k=>rfl⟩
theorem Mp.kept{row:Option Nat}(h:Mp W r n mv)(hg:W.grownBy W' row)(bj:some r≠row):Mp W' r n mv:=by obtain⟨D,h1,h2⟩:=h;exact⟨D,h1.kept hg bj,h2⟩
theorem Mp.block(h:Mp W r n mv)(hb:W'.heap[r]?=W.heap[r]?):Mp W' r n mv:=by obtain⟨D,⟨es,tS,hb1,Ft,hs,hD⟩,h2⟩:=h;exact⟨D,⟨es,tS,hb.trans hb1,Ft,hs,hD⟩,h2⟩
theorem Mp.below{B:Nat}(h:Mp W r n mv)(hb:Below B W W')(hr:r<B):Mp W' r n mv:=h.block (hb.block r hr)
theorem Mp.lt(h:Mp W r n mv):r<W.heap.size:=by obtain⟨D,h1,_⟩:=h;exact h1.lt
theorem Mp.look(h:Mp W r n mv){k:Int}(hk:iI k):iI (mv k)/\(Instr.lookup 49 (.map (some r)) (Iq k) false).run prog W=.ok (Iq (mv k)) W:=by obtain⟨D,h1,h2⟩:=h;obtain⟨c,wG,hv,hw⟩:=h1.lookup_int qp (t:=49) (e:=3) (by kernel_rfl) underlying3 (zeroValue3 W) (YQ hk);have e:=(h2 k).symm.trans hv;injection e with e;injection e with _ e;subst e;exact⟨Gp hw,wG⟩
theorem Mp.put(h:Mp W r n mv){k v:Int}(hk:iI k)(hv:iI v)(hn:n<8000000000000):
 ∃W',(Instr.mapUpdate 49 (.map (some r)) (Iq k) (Iq v)).run prog W=.ok () W'/\Mp W' r (n+1) (fun j=>if j=k then v else mv j)/\W.grownBy W' (some r):=by
 obtain⟨D,h1,h2⟩:=h;obtain⟨W',wG,ho,hg⟩:=h1.update qp (t:=49) (e:=3) (by kernel_rfl) (by unfold maxLen;omega) (YQ hk) (plainElem_int underlying3 hv.wf);refine⟨W',wG,⟨_,ho,fun j=>?_⟩,hg⟩;by_cases e:j=k;·subst e;rw[Maps.atKey_put_same h1.isMap (qp.key (YQ hk))];simp
 ·have e':Lit.int .i64 j≠Lit.int .i64 k:=fun q=>e (by injection q);rw[Maps.atKey_put_other e'];simp only[e,if_false];exact h2 j
end
end
end Go.Proofs.YtadhgppeafpdgaaGreatDoor
namespace Go.Proofs
open Go.Shelf
shelf_lay_g SlLaysZI.n7 Ggz 7 at Tryz 48 as Tryz.keysLaid
shelf_lay_g SlLaysZI.n6 Ggz 6 at Tryz 47 as Tryz.sortedLaid
end Go.Proofs
namespace Go.Proofs.YtadhgppeafpdgaaGreatDoor
section
open Go.RowKit Go.Sort Go.Maps Go.Proofs.Tryz
def mP(W:World)(S:Nat)(w h:Int)(t:ByteArray)(r:Nat)(sh:Value):Prop:=W.heap[S]?=some (.cells #[Iq w,Iq h,.string t,.map (some r),sh] 51 (0,0))
theorem mP.lt{W:World}{S r:Nat}{w h:Int}{t:ByteArray}{sh:Value}(q:mP W S w h t r sh):S<W.heap.size:=(az.1 q).1
theorem mP.cell{W:World}{S r:Nat}{w h:Int}{t:ByteArray}{sh:Value}(q:mP W S w h t r sh):W.cell? (aq S 0)=some (Iq w)/\W.cell? (aq S 1)=some (Iq h)/\W.cell? (aq S 2)=some (.string t)/\W.cell? (aq S 3)=some (.map (some r))/\W.cell? (aq S 4)=some sh/\∀j,W.frozen? (aq S j)=false:=by unfold mP at q;refine⟨?_,?_,?_,?_,?_,fun j=>frozen_of_row _ _ _ _ _ q⟩<;>simp[World.cell?,q]
theorem KQ(mb:Option Nat)(W:World):Cw 48 #[.map mb] W fun e w'=>e=Rw (.func (.func 77) #[] #[Pq W.heap.size])/\w'=W.alloc (.cells #[.map mb] 49):=
 (callsIn_wide (n:=5)).1 (AnyZI.keys_in Tryz.keysLaid Fence.wide 5 trivial rfl mb W)
theorem F'(m:Nat):AnyZI.SortsIn prog Tryz.sortedLaid_ren Fence.wide m:=
 ⟨fun blk off cap ss W hH zr eV=>callsIn_wide.2 (AnyM.slices_Sort_int Tryz.sortLaid blk off cap ss W hH zr eV),
  fun p cap W=>callsIn_wide.2 (AnyM.slices_Sort_int_none Tryz.sortLaid p cap W)⟩
theorem DE(r nn B:Nat)(D:DataW Unit)(W:World)(hB:B<W.heap.size)(hc:W.cell? (aq B 0)=some (.map (some r)))(bC:W.ownsMap prog 3 (plainElem prog 3) r nn D)(hn:nn<=4000000000000):
 Cw 47 #[.func (.func 77) #[] #[Pq B]] W fun e w'=>∃(v:Value) (ss:List Int),e=Rw v/\ss.Perm (intKeys D)/\w'.ownsRow W.heap.size 3 1 v ss.length ((ss.mergeSort (fun x y=>decide (x<=y))).map encZ)/\Bt W w':=by
 have qj:=bC.size_le;have YG:SeqGives Fence.wide 2 prog 77 #[Pq B] encZ (fun ss=>ss.Perm (intKeys D)) (Maps.size D) W:=
  AnyZI.keys_gives (ρ:=Tryz.keysLaid_ren) {Tryz.keysLaid with} Fence.wide _ trivial rfl (by omega) B r nn D W hB hc bC;have cS:=AnyZI.sorted_in Tryz.sortedLaid Fence.wide 5 trivial trivial trivial trivial rfl (by omega) (F' _) (enters_of func76 (by kernel_rfl) rfl) 77 #[Pq B] trivial (enters_of func77 (by kernel_rfl) rfl) _ _ (by unfold maxLen;omega) (by omega) W YG;change CallsIn _ _ prog 47 _ _ _ at cS;refine((callsIn_wide (n:=5)).1 cS).mono ?_;rintro e w' ⟨v,ss,h1,h2,h3,_,h5⟩;exact⟨v,ss,h1,h2,h3,h5⟩
theorem Ij{mv:Int->Int}{aX off:Nat->Int}(id:Int):∀k,(∀j,j<k->off j=mv (aX j))->((∀j,j<k->aX j≠id)->mv id=0)->jF id aX off k=mv id
 |0,_,h=>by rw[h (fun j hj=>by omega)];rfl
 |k+1,h1,h2=>by
  unfold jF;by_cases e:aX k=id;·rw[if_pos e,h1 k (by omega),e]
  ·rw[if_neg e];refine Ij id k (fun j hj=>h1 j (by omega)) fun h=>h2 fun j hj=>?_;by_cases q:j=k;·rw[q];exact e
   ·exact h j (by omega)
theorem YW{D:DataW Unit}{mv:Int->Int}(hm:MpD D mv){ss:List Int}(hp:ss.Perm (intKeys D)){id:Int}(h:id∉ss):mv id=0:=by
 have hh:Maps.has D (.int .i64 id)=false:=by
  cases hq:Maps.has D (.int .i64 id)with
  |false=>rfl
  |true=>
   exfalso;apply h;rw[hp.mem_iff];cases D;case map es=>rw[Maps.has_eq,List.any_eq_true]at hq;obtain⟨p,vS,hp2⟩:=hq;exact lZ.2 ⟨p,vS,by rw[Rr hp2];rfl⟩
   all_goals cases hq
 have:=hm id;rw[Maps.atKey_of_not_has hh]at this;injection this with this;injection this with _ this;exact this.symm
theorem PZ{W:World}{B n:Nat}{v:Value}{ms:List Int}(h:W.ownsRow B 3 1 v n (ms.map encZ))(hn:ms.length=n):∃p c,v=.slice p n c/\(n=0\/∃g,p=some (aq g 0)/\g<W.heap.size/\∀j,j<n->W.cell? (aq g j)=some (Iq (ms[j]?.getD 0))):=by
 rcases de h with⟨rfl,h0⟩|⟨g,cap,rfl,_,hl,_⟩;·exact⟨none,0,by rw[h0],.inl h0⟩
 ·refine⟨_,_,rfl,.inr ⟨g,rfl,hl,fun j hj=>?_⟩⟩;rw[h.cellAt j (by omega)];simp[show j<ms.length by omega]
def NsO(W W':World)(mv:Int->Int)(e:Ending):Prop:=∃p k c aX off,e=Rw (.slice p k c)/\sN W' p k aX off/\(∀a:Addr,p=some a->a.block<W'.heap.size)/\k<=4000000000000/\(∀id,jF id aX off k=mv id)/\Bt W W'
theorem oW(S r n:Nat)(w h:Int)(t:ByteArray)(sh:Value)(mv:Int->Int)(U:World)(hS:mP U S w h t r sh)(hM:Mp U r n mv)(hn:n<=4000000000000):
 Cw 26 #[Pq S] U fun e U'=>NsO U U' mv e:=by
 obtain⟨i0,hi,dJ,fy,fB⟩:=info_parts Ff;obtain⟨D,hD,hmd⟩:=hM;have hM:Mp U r n mv:=⟨D,hD,hmd⟩;obtain⟨_,_,_,c3,_,_⟩:=hS.cell;have RL:=hS.lt;obtain⟨U1,wA⟩:=af (U.alloc (.cells #[.map (some r)] 49));obtain⟨B,hB⟩:=af U.heap.size;have HK:Hid (Cw 48 #[.map (some r)] U fun e w'=>e=Rw (.func (.func 77) #[] #[Pq B])/\w'=U1):=by rw[<-wA,<-hB];exact KQ (some r) U
 have HB1:Hid (Bt U U1):=by rw[<-wA];exact((Gr.refl U).alloc _).below
 have HSo:Hid (Cw 47 #[.func (.func 77) #[] #[Pq B]] U1 fun e w'=>∃(v:Value) (ss:List Int),e=Rw v/\ss.Perm (intKeys D)/\w'.ownsRow U1.heap.size 3 1 v ss.length ((ss.mergeSort (fun x y=>decide (x<=y))).map encZ)/\Bt U1 w'):=by
  refine DE r n B D U1 ?_ ?_ ?_ hn;·rw[<-wA,<-hB];simp
  ·rw[<-wA,<-hB];simp
  ·rw[<-wA];exact hD.alloc _
 have HKW:=qH<|intKeys_wf hD underlying3;have HNI:=qH<|fun(ss:List Int) (hp:ss.Perm (intKeys D)) (id:Int) h=>YW hmd hp (id:=id) h;have nD:=qH<|fun(ss:List Int) (hp:ss.Perm (intKeys D))=>(hp.length_eq.trans (by obtain⟨es,rfl,_⟩:=hD.entries qp;exact rU _):ss.length=Maps.size D);have HLE:=qH<|hD.size_le;have HM:=qH hM;have vO:=qH hS;clear hD hmd hM hS wA;go_enter func26,ntmps26;go_wp2_with(first|(go_at_call 48;refine HK.mono ?_;rintro e w1 ⟨rfl,h1⟩;obtain rfl:=h1.symm)|(go_at_call 47;refine HSo.mono ?_;rintro e U2 ⟨v2,ss,rfl,hp,hrow,dE⟩;obtain⟨p2,c2,rfl,hrd⟩:=PZ hrow (List.length_mergeSort _);have Jq:=qH hrd;have HPM:=qH hp;have HB2:=qH<|HB1.trans (dE.mono HB1.size);clear hrow dE hrd hp));obtain⟨ms,qk⟩:=af (ss.mergeSort fun x y=>decide (x<=y));have ZD:Hid (∀x,x∈ms↔x∈ss):=fun x=>by rw[<-qk];exact(Rp _ _).mem_iff
 have OK:ms.length=ss.length:=by rw[<-qk];exact List.length_mergeSort _
 obtain⟨K,hK⟩:=af ss.length;have hKn:K<=4000000000000:=by have:=nD ss HPM;have:=HLE.out;omega
 have Sp:Hid (ms.length=K):=OK.trans hK;rw[qk,hK]at Jq;rw[hK];have HW:Hid (∀x∈ms,iI x):=fun x hx=>Gp (HKW x (HPM.out.mem_iff.1 ((ZD x).1 hx)));have HZ:Hid (∀id,id∉ms->mv id=0):=fun id h=>HNI ss HPM id (fun q=>h ((ZD id).2 q));obtain⟨aX,zbD⟩:∃f:Nat->Int,(fun j=>ms[j]?.getD 0)=f:=⟨_,rfl⟩;have HID:Hid (∀j,aX j=ms[j]?.getD 0):=fun j=>by rw[<-zbD]
 have GB:Hid (∀u,Bt U2 u->Mp u r n mv/\u.cell? (aq S 3)=some (.map (some r))):=fun u hu=>by have hb:=HB2.out.trans (hu.mono HB2.size);exact⟨HM.out.below hb HM.out.lt,(mP.cell (W:=u) ((hb.block S RL).trans vO)).2.2.2.1⟩
 clear qk OK hK zbD HK HSo HKW HNI nD HLE HM vO HPM ZD c3;go_loopw[3,13] (fun v iv wr=>∃k:Nat,iv=Iq k/\k<=K/\wr.ownsRow U2.heap.size 124 2 v k (iV aX (fun j=>mv (aX j)) k)/\Bt U2 wr) (fun _ iv _=>K-(intOf iv).toNat);case atStart=>exact⟨0,rfl,bm _,jb _ _ _ _,ag _ _⟩
 case round=>
  obtain⟨k,rfl,hk,bC,b_⟩:=hrel;by_cases hlt:k<K
  ·have aR:(k:Int)<(K:Int):=by omega
   obtain⟨g,rfl,kM,hrd⟩:=Jq.out.resolve_left (by omega);obtain⟨x,hx⟩:=af (aX k);have q0:wr.cell? (aq g k)=some (Iq x):=by rw[b_.cell (p:=(aq g k)) kM,hrd k hlt,<-HID k,hx]
   have zhP:iI x:=HW x (by rw[<-hx,HID k,di (by have:=Sp.out;omega)];exact rT _);obtain⟨hm,q3⟩:=GB wr b_;obtain⟨_,KD⟩:=hm.look zhP;obtain⟨y,hy⟩:=af (mv x);rw[hy]at KD;have HS:Hid (iV aX (fun j=>mv (aX j)) (k+1)=iV aX (fun j=>mv (aX j)) k++[Iq x,Iq y]):=by show _=_;rw[iV,hx,hy]
   clear hrd hx hy hm;go_wp2_with(at_builtin;refine ap1 (W0:=U2) hi dJ fy fB bC b_ [Iq x,Iq y] rfl _ _ rfl underlying79 ⟨rfl,by decide,by decide⟩ rfl rfl ⟨rfl,rfl⟩ (by omega) ?_;intro v' w1 bS hb1;clear bC b_);go_roundw;case rel=>exact⟨k+1,by go_num,by omega,by rw[HS.out];exact bS,hb1⟩
   case measure=>simp[intOf];omega
  ·have hge:¬(k:Int)<(K:Int):=by omega
   obtain rfl:k=K:=by omega
   have HV:Hid (∃p c,u3=.slice p k c/\sN wr p k aX (fun j=>mv (aX j))/\∀a:Addr,p=some a->a.block<wr.heap.size):=by
    have h0:=bC;rcases bC.2 with⟨rfl,rfl⟩|⟨g,cH,cM,rfl,hb,hg,h1,h2,_⟩;·exact⟨none,0,rfl,.inl rfl,fun a e=>by cases e⟩
    ·have kM:=(az.1 hg).1;refine⟨some (aq g 0),cH,rfl,.inr ⟨g,0,rfl,kM,fun j hj=>?_⟩,fun a e=>by grind⟩;have:=xP aX (fun j=>mv (aX j)) k j hj;have hl:=nY aX (fun j=>mv (aX j)) k;rw[h0.cellAt _ (by omega),h0.cellAt _ (by omega),cB];omega
   obtain⟨p',c',rfl,fj,my⟩:=HV.out;have Js:=qH<|And.intro fj my;have Xi:=qH<|HB2.out.trans (b_.mono HB2.size);clear bC HV fj my b_;go_wp2;go_ret;refine⟨p',k,c',aX,_,rfl,Js.1,Js.2,hKn,fun id=>Ij id k (fun j _=>rfl) fun h=>HZ id fun hm=>?_,Xi⟩;obtain⟨j,hj,e⟩:=rP.1 hm;refine h j (by have:=Sp.out;omega) ?_;rw[HID j,di hj];exact e
