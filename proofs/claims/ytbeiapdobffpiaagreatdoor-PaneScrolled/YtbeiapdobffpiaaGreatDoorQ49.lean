import Derived.Test.YtbeiapdobffpiaaGreatDoorQ19
import Derived.Test.YtbeiapdobffpiaaGreatDoorQ36
import Derived.Lib.SlKeysI
import Derived.Lib.SlMapFilter
import Derived.Test.YtbeiapdobffpiaaGreatDoorQ45
import Derived.Shelf.SlIterI.Sorted
set_option linter.all false
set_option maxRecDepth 100000
set_option maxHeartbeats 16000000
namespace Go.Proofs.YtbeiapdobffpiaaGreatDoor
section
open Go.RowKit Go.Sort Go.Proofs.Tryz
theorem Tv{k:Int}(h:iX k):keyOf prog 3 (Iq k)=some (.int .i64 k):=by have:=h.wf;simp[keyOf,underlying3,mapKey,this]
theorem DU{k:Int}(h:(Lit.int .i64 k).wf=true):iX k:=by
 have e1:IntKind.i64.min=-9223372036854775808:=by decide
 have e2:IntKind.i64.max=9223372036854775807:=by decide
 simp[Lit.wf,e1,e2]at h;exact h
theorem o9:Maps.Keyed prog 3:=Maps.int_keyed underlying3
def Wb(D:DataW Unit)(mv:Int->Int):Prop:=∀k,D.atKey (.int .i64 k) (.lit (.int .i64 0))=.lit (.int .i64 (mv k))
def Mp(W:World)(r n:Nat)(mv:Int->Int):Prop:=∃D:DataW Unit,W.ownsMap prog 3 (plainElem prog 3) r n D/\Wb D mv
section
variable{W W':World} {r n:Nat} {mv:Int->Int}
theorem Mp.new(w:World):Mp (w.alloc (.map #[] 0)) w.heap.size 0 (fun _=>0):=
 ⟨.map [],World.ownsMap_made w _ _ _,fun k=>rfl⟩
theorem Mp.kept{row:Option Nat}(h:Mp W r n mv)(hg:W.grownBy W' row)(bG:some r≠row):Mp W' r n mv:=by obtain⟨D,h1,h2⟩:=h;exact⟨D,h1.kept hg bG,h2⟩
theorem Mp.block(h:Mp W r n mv)(hb:W'.heap[r]?=W.heap[r]?):Mp W' r n mv:=by obtain⟨D,⟨es,rL,hb1,Ft,hs,hD⟩,h2⟩:=h;exact⟨D,⟨es,rL,hb.trans hb1,Ft,hs,hD⟩,h2⟩
theorem Mp.below{B:Nat}(h:Mp W r n mv)(hb:Below B W W')(hr:r<B):Mp W' r n mv:=h.block (hb.block r hr)
theorem Mp.lt(h:Mp W r n mv):r<W.heap.size:=by obtain⟨D,h1,_⟩:=h;exact h1.lt
theorem Mp.look(h:Mp W r n mv){k:Int}(hk:iX k):iX (mv k)/\(Instr.lookup 52 (.map (some r)) (Iq k) false).run prog W=.ok (Iq (mv k)) W:=by obtain⟨D,h1,h2⟩:=h;obtain⟨c,zi,hv,hw⟩:=h1.lookup_int o9 (t:=52) (e:=3) (by kernel_rfl) underlying3 (zeroValue3 W) (Tv hk);have e:=(h2 k).symm.trans hv;injection e with e;injection e with _ e;subst e;exact⟨DU hw,zi⟩
theorem Mp.put(h:Mp W r n mv){k v:Int}(hk:iX k)(hv:iX v)(hn:n<1000000000000):
 ∃W',(Instr.mapUpdate 52 (.map (some r)) (Iq k) (Iq v)).run prog W=.ok () W'/\Mp W' r (n+1) (fun j=>if j=k then v else mv j)/\W.grownBy W' (some r):=by
 obtain⟨D,h1,h2⟩:=h;obtain⟨W',zi,ho,hg⟩:=h1.update o9 (t:=52) (e:=3) (by kernel_rfl) (by unfold maxLen;omega) (Tv hk) (plainElem_int underlying3 hv.wf);refine⟨W',zi,⟨_,ho,fun j=>?_⟩,hg⟩;by_cases e:j=k;·subst e;rw[Maps.atKey_put_same h1.isMap (o9.key (Tv hk))];simp
 ·have e':Lit.int .i64 j≠Lit.int .i64 k:=fun q=>e (by injection q);rw[Maps.atKey_put_other e'];simp only[e,if_false];exact h2 j
end
end
end Go.Proofs.YtbeiapdobffpiaaGreatDoor
namespace Go.Proofs
open Go.Shelf
shelf_lay_g SlLaysZI.n7 Ggz 7 at Tryz 38 as Tryz.keysLaid
shelf_lay_g SlLaysZI.n6 Ggz 6 at Tryz 37 as Tryz.sortedLaid
end Go.Proofs
namespace Go.Proofs.YtbeiapdobffpiaaGreatDoor
section
open Go.RowKit Go.Sort Go.Maps Go.Proofs.Tryz
def pI(W:World)(S:Nat)(w h:Int)(t:ByteArray)(r:Nat)(sh:Value):Prop:=W.heap[S]?=some (.cells #[Iq w,Iq h,.string t,.map (some r),sh] 55 (0,0))
theorem pI.lt{W:World}{S r:Nat}{w h:Int}{t:ByteArray}{sh:Value}(q:pI W S w h t r sh):S<W.heap.size:=(aS.1 q).1
theorem pI.cell{W:World}{S r:Nat}{w h:Int}{t:ByteArray}{sh:Value}(q:pI W S w h t r sh):W.cell? (az S 0)=some (Iq w)/\W.cell? (az S 1)=some (Iq h)/\W.cell? (az S 2)=some (.string t)/\W.cell? (az S 3)=some (.map (some r))/\W.cell? (az S 4)=some sh/\∀j,W.frozen? (az S j)=false:=by unfold pI at q;refine⟨?_,?_,?_,?_,?_,fun j=>frozen_of_row _ _ _ _ _ q⟩<;>simp[World.cell?,q]
theorem GM(mb:Option Nat)(W:World):Cw 38 #[.map mb] W fun e w'=>e=Rw (.func (.func 62) #[] #[Pq W.heap.size])/\w'=W.alloc (.cells #[.map mb] 52):=
 (callsIn_wide (n:=5)).1 (AnyZI.keys_in Tryz.keysLaid Fence.wide 5 trivial rfl mb W)
theorem DI(m:Nat):AnyZI.SortsIn prog Tryz.sortedLaid_ren Fence.wide m:=
 ⟨fun blk off al ss W hH wK fT=>callsIn_wide.2 (AnyM.slices_Sort_int Tryz.sortLaid blk off al ss W hH wK fT),
  fun p al W=>callsIn_wide.2 (AnyM.slices_Sort_int_none Tryz.sortLaid p al W)⟩
theorem Ao(r nn B:Nat)(D:DataW Unit)(W:World)(hB:B<W.heap.size)(hc:W.cell? (az B 0)=some (.map (some r)))(bi:W.ownsMap prog 3 (plainElem prog 3) r nn D)(hn:nn<=1000000):
 Cw 37 #[.func (.func 62) #[] #[Pq B]] W fun e w'=>∃(v:Value) (ss:List Int),e=Rw v/\ss.Perm (intKeys D)/\w'.ownsRow W.heap.size 3 1 v ss.length ((ss.mergeSort (fun x y=>decide (x<=y))).map encZ)/\Bt W w':=by
 have hle:=bi.size_le;have Tj:SeqGives Fence.wide 2 prog 62 #[Pq B] encZ (fun ss=>ss.Perm (intKeys D)) (Maps.size D) W:=
  AnyZI.keys_gives (ρ:=Tryz.keysLaid_ren) {Tryz.keysLaid with} Fence.wide _ trivial rfl (by omega) B r nn D W hB hc bi;have cS:=AnyZI.sorted_in Tryz.sortedLaid Fence.wide 5 trivial trivial trivial trivial rfl (by omega) (DI _) (enters_of func61 (by kernel_rfl) rfl) 62 #[Pq B] trivial (enters_of func62 (by kernel_rfl) rfl) _ _ (by unfold maxLen;omega) (by omega) W Tj;change CallsIn _ _ prog 37 _ _ _ at cS;refine((callsIn_wide (n:=5)).1 cS).mono ?_;rintro e w' ⟨v,ss,h1,h2,h3,_,h5⟩;exact⟨v,ss,h1,h2,h3,h5⟩
theorem EQ{mv:Int->Int}{aX off:Nat->Int}(id:Int):∀k,(∀j,j<k->off j=mv (aX j))->((∀j,j<k->aX j≠id)->mv id=0)->kj id aX off k=mv id
 |0,_,h=>by rw[h (fun j hj=>by omega)];rfl
 |k+1,h1,h2=>by
  unfold kj;by_cases e:aX k=id;·rw[if_pos e,h1 k (by omega),e]
  ·rw[if_neg e];refine EQ id k (fun j hj=>h1 j (by omega)) fun h=>h2 fun j hj=>?_;by_cases q:j=k;·rw[q];exact e
   ·exact h j (by omega)
theorem TD{D:DataW Unit}{mv:Int->Int}(hm:Wb D mv){ss:List Int}(hp:ss.Perm (intKeys D)){id:Int}(h:id∉ss):mv id=0:=by
 have hh:Maps.has D (.int .i64 id)=false:=by
  cases hq:Maps.has D (.int .i64 id)with
  |false=>rfl
  |true=>
   exfalso;apply h;rw[hp.mem_iff];cases D;case map es=>rw[Maps.has_eq,List.any_eq_true]at hq;obtain⟨p,Gx,hp2⟩:=hq;exact Bi.2 ⟨p,Gx,by rw[MD hp2];rfl⟩
   all_goals cases hq
 have:=hm id;rw[Maps.atKey_of_not_has hh]at this;injection this with this;injection this with _ this;exact this.symm
theorem La{W:World}{B n:Nat}{v:Value}{ms:List Int}(h:W.ownsRow B 3 1 v n (ms.map encZ))(hn:ms.length=n):∃p c,v=.slice p n c/\(n=0\/∃g,p=some (az g 0)/\g<W.heap.size/\∀j,j<n->W.cell? (az g j)=some (Iq (ms[j]?.getD 0))):=by
 rcases cD h with⟨rfl,h0⟩|⟨g,al,rfl,_,hl,_⟩;·exact⟨none,0,by rw[h0],.inl h0⟩
 ·refine⟨_,_,rfl,.inr ⟨g,rfl,hl,fun j hj=>?_⟩⟩;rw[h.cellAt j (by omega)];simp[show j<ms.length by omega]
def NsO(W W':World)(mv:Int->Int)(e:Ending):Prop:=∃p k c aX off,e=Rw (.slice p k c)/\pH W' p k aX off/\(∀a:Addr,p=some a->a.block<W'.heap.size)/\k<=1000000/\(∀id,kj id aX off k=mv id)/\Bt W W'
theorem xd(S r n:Nat)(w h:Int)(t:ByteArray)(sh:Value)(mv:Int->Int)(U:World)(hS:pI U S w h t r sh)(hM:Mp U r n mv)(hn:n<=1000000):
 Cw 21 #[Pq S] U fun e U'=>NsO U U' mv e:=by
 obtain⟨i0,hi,eK,fZ,iD⟩:=info_parts C5;obtain⟨D,hD,XJ⟩:=hM;have hM:Mp U r n mv:=⟨D,hD,XJ⟩;obtain⟨_,_,_,c3,_,_⟩:=hS.cell;have QL:=hS.lt;obtain⟨U1,tM⟩:=aj (U.alloc (.cells #[.map (some r)] 52));obtain⟨B,hB⟩:=aj U.heap.size;have HK:Hid (Cw 38 #[.map (some r)] U fun e w'=>e=Rw (.func (.func 62) #[] #[Pq B])/\w'=U1):=by rw[<-tM,<-hB];exact GM (some r) U
 have HB1:Hid (Bt U U1):=by rw[<-tM];exact((Gr.refl U).alloc _).below
 have HSo:Hid (Cw 37 #[.func (.func 62) #[] #[Pq B]] U1 fun e w'=>∃(v:Value) (ss:List Int),e=Rw v/\ss.Perm (intKeys D)/\w'.ownsRow U1.heap.size 3 1 v ss.length ((ss.mergeSort (fun x y=>decide (x<=y))).map encZ)/\Bt U1 w'):=by
  refine Ao r n B D U1 ?_ ?_ ?_ hn;·rw[<-tM,<-hB];simp
  ·rw[<-tM,<-hB];simp
  ·rw[<-tM];exact hD.alloc _
 have YS:=qH<|intKeys_wf hD underlying3;have HNI:=qH<|fun(ss:List Int) (hp:ss.Perm (intKeys D)) (id:Int) h=>TD XJ hp (id:=id) h;have RY:=qH<|fun(ss:List Int) (hp:ss.Perm (intKeys D))=>(hp.length_eq.trans (by obtain⟨es,rfl,_⟩:=hD.entries o9;exact Me _):ss.length=Maps.size D);have VI:=qH<|hD.size_le;have HM:=qH hM;have xJ:=qH hS;clear hD XJ hM hS tM;go_enter func21,ntmps21;go_wp2_with(first|(go_at_call 38;refine HK.mono ?_;rintro e w1 ⟨rfl,h1⟩;obtain rfl:=h1.symm)|(go_at_call 37;refine HSo.mono ?_;rintro e U2 ⟨v2,ss,rfl,hp,hrow,hb2⟩;obtain⟨p2,c2,rfl,hrd⟩:=La hrow (List.length_mergeSort _);have qq:=qH hrd;have Y0:=qH hp;have HB2:=qH<|HB1.trans (hb2.mono HB1.size);clear hrow hb2 hrd hp));obtain⟨ms,oW⟩:=aj (ss.mergeSort fun x y=>decide (x<=y));have Um:Hid (∀x,x∈ms↔x∈ss):=fun x=>by rw[<-oW];exact(Mz _ _).mem_iff
 have Gt:ms.length=ss.length:=by rw[<-oW];exact List.length_mergeSort _
 obtain⟨K,hK⟩:=aj ss.length;have hKn:K<=1000000:=by have:=RY ss Y0;have:=VI.out;omega
 have Np:Hid (ms.length=K):=Gt.trans hK;rw[oW,hK]at qq;rw[hK];have HW:Hid (∀x∈ms,iX x):=fun x hx=>DU (YS x (Y0.out.mem_iff.1 ((Um x).1 hx)));have HZ:Hid (∀id,id∉ms->mv id=0):=fun id h=>HNI ss Y0 id (fun q=>h ((Um id).2 q));obtain⟨aX,Xw⟩:∃f:Nat->Int,(fun j=>ms[j]?.getD 0)=f:=⟨_,rfl⟩;have _H:Hid (∀j,aX j=ms[j]?.getD 0):=fun j=>by rw[<-Xw]
 have BL:Hid (∀u,Bt U2 u->Mp u r n mv/\u.cell? (az S 3)=some (.map (some r))):=fun u hu=>by have hb:=HB2.out.trans (hu.mono HB2.size);exact⟨HM.out.below hb HM.out.lt,(pI.cell (W:=u) ((hb.block S QL).trans xJ)).2.2.2.1⟩
 clear oW Gt hK Xw HK HSo YS HNI RY VI HM xJ Y0 Um c3;go_loopw[3,13] (fun v iv wr=>∃k:Nat,iv=Iq k/\k<=K/\wr.ownsRow U2.heap.size 116 2 v k (iG aX (fun j=>mv (aX j)) k)/\Bt U2 wr) (fun _ iv _=>K-(intOf iv).toNat);case atStart=>exact⟨0,rfl,bc _,gM _ _ _ _,ag _ _⟩
 case round=>
  obtain⟨k,rfl,hk,bi,hbw⟩:=hrel;by_cases hlt:k<K
  ·have aK:(k:Int)<(K:Int):=by omega
   obtain⟨g,rfl,iU,hrd⟩:=qq.out.resolve_left (by omega);obtain⟨x,hx⟩:=aj (aX k);have q0:wr.cell? (az g k)=some (Iq x):=by rw[hbw.cell (p:=(az g k)) iU,hrd k hlt,<-_H k,hx]
   have zc1:iX x:=HW x (by rw[<-hx,_H k,dN (by have:=Np.out;omega)];exact l6 _);obtain⟨hm,q3⟩:=BL wr hbw;obtain⟨_,U9⟩:=hm.look zc1;obtain⟨y,hy⟩:=aj (mv x);rw[hy]at U9;have HS:Hid (iG aX (fun j=>mv (aX j)) (k+1)=iG aX (fun j=>mv (aX j)) k++[Iq x,Iq y]):=by show _=_;rw[iG,hx,hy]
   clear hrd hx hy hm;go_wp2_with(at_builtin;refine Jc (W0:=U2) hi eK fZ iD bi hbw [Iq x,Iq y] rfl _ _ rfl underlying71 ⟨rfl,by decide,by decide⟩ rfl rfl ⟨rfl,rfl⟩ (by omega) ?_;intro v' w1 bK hb1;clear bi hbw);go_roundw;case rel=>exact⟨k+1,by go_num,by omega,by rw[HS.out];exact bK,hb1⟩
   case measure=>simp[intOf];omega
  ·have qC:¬(k:Int)<(K:Int):=by omega
   obtain rfl:k=K:=by omega
   have HV:Hid (∃p c,u3=.slice p k c/\pH wr p k aX (fun j=>mv (aX j))/\∀a:Addr,p=some a->a.block<wr.heap.size):=by
    have h0:=bi;rcases bi.2 with⟨rfl,rfl⟩|⟨g,mg,iT,rfl,hb,hg,h1,h2,_⟩;·exact⟨none,0,rfl,.inl rfl,fun a e=>by cases e⟩
    ·have iU:=(aS.1 hg).1;refine⟨some (az g 0),mg,rfl,.inr ⟨g,0,rfl,iU,fun j hj=>?_⟩,fun a e=>by grind⟩;have:=uW aX (fun j=>mv (aX j)) k j hj;have hl:=mJ aX (fun j=>mv (aX j)) k;rw[h0.cellAt _ (by omega),h0.cellAt _ (by omega),bC];omega
   obtain⟨p',c',rfl,zl,CZ⟩:=HV.out;have Qq:=qH<|And.intro zl CZ;have HBW:=qH<|HB2.out.trans (hbw.mono HB2.size);clear bi HV zl CZ hbw;go_wp2;go_ret;refine⟨p',k,c',aX,_,rfl,Qq.1,Qq.2,hKn,fun id=>EQ id k (fun j _=>rfl) fun h=>HZ id fun hm=>?_,HBW⟩;obtain⟨j,hj,e⟩:=ox.1 hm;refine h j (by have:=Np.out;omega) ?_;rw[_H j,dN hj];exact e
end
section
open Go.RowKit Go.Sort Go.Proofs.Tryz
theorem TM:(prog.info? 121).map (fun i=>(i.zero,i.size,i.bytes))=some (some (.agg #[.string ⟨#[]⟩,Iq 0,Iq 0,Iq 0,Iq 0]),5,48):=by kernel_rfl
theorem TL:(prog.info? 4).map (fun i=>(i.zero,i.size,i.bytes))=some (some (.bool false),1,1):=by kernel_rfl
def Wf(B:Nat)(w w':World)(e:Ending):Prop:=∃K,e=Rw (.tuple #[Pq K,Iq 0])/\Below B w w'
def Kc(w Q:World)(S i:Nat)(v:Value):Prop:=(∃a b,Q.heap[S]?=some (.cells #[a,b,v] 119 (0,0)))/\(∃xs,Q.ownsRow (S+1) 121 5 v i xs)/\Below S w Q/\S+1<=Q.heap.size
theorem rnew_low(W H:Nat)(hW:1<=W/\W<=400)(hH:1<=H/\H<=400)(w:World):Cw 24 #[Iq W,Iq H] w fun e w'=>Wf w.heap.size w w' e:=by
 obtain⟨i0,Gj,eK,fZ,iD⟩:=info_parts TM;obtain⟨n,Td⟩:=aj (W*H);have nb:1<=n/\n<=160000:=by rw[<-Td];exact⟨Fj hW.1 hH.1,Fj hW.2 hH.2⟩
 have eN:(W:Int)*(H:Int)=(n:Int):=by rw[<-Td];simp
 clear Td;obtain⟨S,hS⟩:=aj w.heap.size;have HS:=qH hS;rw[hS];go_enter func24,ntmps24;go_wp2_with fail;obtain⟨W0,dG⟩:=aj (w.alloc (.cells #[Iq W,Iq H,.slice none 0 0] 119));have B0:Hid (Kc w W0 S 0 (.slice none 0 0)):=by rw[<-dG,<-hS];exact⟨⟨_,_,heap_alloc_new _ _⟩,⟨_,gM _ _ _ _⟩,((Gr.refl w).alloc _).below,by simp⟩
 try rw[dG]
 try rw[hS]
 clear dG hS;go_loopw[7] (fun iv wi=>∃i:Nat,i<=n/\iv=Iq i/\∃v,Hid (Kc w wi S i v)) (fun iv _=>n-(intOf iv).toNat);case atStart=>exact⟨0,by omega,rfl,_,B0⟩
 case round=>
  obtain⟨i,hi,rfl,v,HI⟩:=hrel;by_cases Gk:i<n
  ·have zbZ:(i:Int)<(n:Int):=by omega
   obtain⟨⟨a,b,hk⟩,⟨xs,bi⟩,hbw,fT⟩:=HI.out;have k2:wr.cell? (az S 2)=some v:=by simp[World.cell?,hk]
   go_wp2_with(at_builtin;refine wpList_append_own _ rfl _ _ 30 rfl (S+1) 121 i0 (.agg #[.string ⟨#[]⟩,Iq 0,Iq 0,Iq 0,Iq 0]) 5 48 underlying30 Gj eK fZ iD rfl (by decide) _ _ _ rfl (bi.alloc _) _ 1 1 [.string ⟨#[32]⟩,Iq 0,Iq 0,Iq 0,Iq 0] rfl rfl ?c1 ?c2 ?c3 ?c4 ?c5 ?_);case c1=>exact uV _ [.string ⟨#[32]⟩,Iq 0,Iq 0,Iq 0,Iq 0] _
   case c2=>intro u hu;simp at hu;rcases hu with rfl|rfl<;>rfl
   case c3=>unfold maxLen;omega
   case c4=>omega
   case c5=>simp;omega
   intro v' w6 bK hg _;have hrow:∀q,Value.ownBlock v=some q->S+1<=q/\q<wr.heap.size:=fun q hq=>bi.lt q hq;have K6:w6.heap[S]?=some (.cells #[a,b,v] 119 (0,0)):=by refine(hg.block S (by rw[aO];omega) (fun e=>by have:=hrow _ e.symm;omega)).trans ?_;exact(((Gr.refl wr).alloc _).block (by omega)).trans hk
   have oP:Below S w w6:=(hbw.alloc (by omega) _).grown hg (by rw[aO];omega) (fun q hq=>by have:=hrow q hq;omega);have hs6:S+1<=w6.heap.size:=by have:=hg.size;rw[aO]at this;omega
   have HK:Hid (Kc w (w6.setCell (az S 2) v') S (i+1) v'):=by
    refine⟨⟨a,b,heap_setCell_same _ S 2 _ _ _ K6⟩,⟨_,⟨bK.1,?_⟩⟩,oP.setCell (p:=(az S 2)) (ai _) _,by simpa using hs6⟩;rcases bK.2 with h2|⟨g,al,iT,q1,q2,q3,q4⟩;·exact .inl h2
    ·exact .inr ⟨g,al,iT,q1,q2,(cF w6 (az S 2) v' g (by show g≠S;omega)).trans q3,q4⟩
   rcases bK.2 with⟨_,h0⟩|⟨g,cp,iT,Ra,_⟩;·omega
   subst Ra;have k2':w6.cell? (az S 2)=some v:=by simp[World.cell?,K6]
   have fz:=fun j=>frozen_of_row w6 S j _ _ K6;clear K6 oP hs6 hg bK hrow k2 hk bi hbw;go_wp2;go_roundw;case rel=>exact⟨i+1,by omega,by go_num,_,HK⟩
   case measure=>simp[intOf];omega
  ·have zbZ:¬(i:Int)<(n:Int):=by omega
   have HB:=qH<|HI.out.2.2.1;clear HI;go_wp2;refine bodyPost_ret (results_tmp2 rfl _ _ _) rfl ?_;exact⟨S,rfl,HB⟩
theorem He(W H:Nat)(hW:1<=W/\W<=400)(hH:1<=H/\H<=400)(w:World):Cw 13 #[Iq W,Iq H] w fun e w'=>Wf w.heap.size w w' e:=by
 have NO:=qH<|rnew_low W H hW hH w;obtain⟨n,hn⟩:=aj (W*H);have nb:n<=160000:=by rw[<-hn];exact Fj hW.2 hH.2
 have Vd:(W:Int)*(H:Int)=(n:Int):=by rw[<-hn,Int.natCast_mul]
 clear hn;have gR:∀u:World,(Instr.makeSlice 86 (Iq (n:Int)) (Iq (n:Int))).run prog u=.ok (Sq u.heap.size n n) (u.alloc (.cells (madeCells #[.bool false] n) 4)):=fun u=>run_make_row' (P:=prog) 86 4 (.bool false) 1 underlying86 TL rfl .i64 .i64 n (by omega) (by omega) u;go_enter func13,ntmps13;go_wp2_with(go_at_call 24;refine NO.mono ?_;rintro e w1 ⟨K,rfl,b1⟩);refine bodyPost_ret (results_tmp2 rfl _ _ _) rfl ?_;exact⟨_,rfl,(b1.alloc b1.size _).alloc (by simp;have:=b1.size;omega) _⟩
