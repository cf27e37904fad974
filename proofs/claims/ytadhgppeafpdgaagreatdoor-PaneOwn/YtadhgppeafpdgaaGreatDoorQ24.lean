import Derived.Test.YtadhgppeafpdgaaGreatDoorQ11
import Derived.Test.YtadhgppeafpdgaaGreatDoorQ23
import Derived.Lib.FrozenHead2
import Derived.Test.YtadhgppeafpdgaaGreatDoorQ10
set_option linter.all false
set_option maxRecDepth 100000
set_option maxHeartbeats 16000000
namespace Go.Proofs.YtadhgppeafpdgaaGreatDoor
open Go.RowKit Go.Sort
theorem DZ(a b:List UInt8):(⟨a.toArray⟩:ByteArray)++(⟨b.toArray⟩:ByteArray)=⟨(a++b).toArray⟩:=by apply ju;simp
theorem EK{n:Int}(h:0<=n/\n<100):1<=(dc n).length/\(dc n).length<=2:=by
 unfold dc;by_cases h1:n.toNat<10;·rw[Lib.decDigits,dif_pos h1];simp
 ·rw[Lib.decDigits,dif_neg h1,Lib.decDigits,dif_pos (by omega)];simp
theorem QB(ns:List Int)(h:fH ns):(Lib.joinTail [59] (ns.map dc)).length<=3*ns.length:=by
 induction ns with
 |nil=>simp[Lib.joinTail]
 |cons n r ih=>have h1:=EK (h n (nj ..));have h2:=ih (fun m hm=>h m (yf _ hm));unfold Lib.joinTail at*;simp only[yq,List.flatten_cons,aI,cP,fh]at*;omega
theorem uH(ns:List Int)(h:fH ns):(Lib.join (ns.map dc) [59]).length<=3*ns.length:=by
 cases ns with
 |nil=>simp[Lib.join_nil]
 |cons n r=>have h1:=EK (h n (nj ..));have h2:=QB r (fun m hm=>h m (yf _ hm));rw[yq,Lib.join_cons,aI,cP];omega
theorem zcu:(Tryz.prog.info? 9).map (fun i=>(i.zero,i.size,i.bytes))=some (some (.string ⟨#[]⟩),1,16):=by kernel_rfl
def wd(n:Int):Value:=.string ⟨(dc n).toArray⟩
theorem Vs(n:Int)(u:Value)(h:u∈[wd n]):u.oneCell'=true:=by simp at h;subst h;rfl
theorem Ct(ns:List Int):(ns.map (fun n=>(⟨(dc n).toArray⟩:ByteArray))).map (fun x=>x.data.toList)=ns.map dc:=by rw[List.map_map];rfl
theorem jI(ns:List Int)(B off cap:Nat)(w:World)(hp:0<ns.length)(hB:B<w.heap.size)(hc:∀j,j<ns.length->w.cell? (aq B (off+j))=some (.int .i64 (ns[j]?.getD 0)))(hs:fH ns)(hl:ns.length<=100):
 Calls Tryz.prog 170 #[.slice (some (aq B off)) ns.length cap] w fun e w'=>e=Rw (.string ⟨(sq ns).toArray⟩)/\Bt w w':=by
 have HC:Hid (∀j,j<ns.length->w.cell? (aq B (off+j))=some (.int .i64 (ns[j]?.getD 0))):=hc;have HS:Hid (fH ns):=hs;have HB:Hid (B<w.heap.size):=hB;obtain⟨i0,hi,dJ,fy,fB⟩:=info_parts zcu;clear hc hs hB;go_enter Tryz.func170,Tryz.ntmps170;go_wp2_with fail;go_loopw[3,8] (fun u i wr=>∃k:Nat,k<=ns.length/\i=.int .i64 k/\Hid (wr.ownsRow w.heap.size 9 1 u k ((ns.take k).map wd)/\Bt w wr)) (fun _ i _=>ns.length-(intOf i).toNat);case atStart=>exact⟨0,bm _,rfl,jb _ _ _ _,ag _ _⟩
 case round=>
  obtain⟨k,hk,rfl,HR⟩:=hrel;by_cases hlt:k<ns.length
  ·obtain⟨n,hn⟩:∃q,ns[k]?.getD 0=q:=⟨_,rfl⟩;have hnm:0<=n/\n<100:=by rw[<-hn,di hlt];exact HS.out _ (rT hlt)
   obtain⟨m,hm⟩:∃m:Nat,(m:Int)=n:=⟨n.toNat,by omega⟩;have Yn:wr.cell? (aq B (off+k))=some (.int .i64 m):=by rw[hm,<-hn];exact(HR.out.2.cell (p:=(aq B (off+k))) HB.out).trans (HC.out k hlt)
   have bb:B<wr.heap.size:=zz007 HB.out HR.out.2.size;have IT:Hid (∀w,Calls Tryz.prog 126 #[.int .i64 m] w fun e w'=>e=Rw (.string ⟨(dc n).toArray⟩)/\w'=w):=fun w=>by have:=Pa m (by omega) w;unfold dc;rw[<-hm,show((m:Int).toNat)=m from rfl];exact this
   have HT:Hid ((ns.take (k+1)).map wd=(ns.take k).map wd++[wd n]):=by show _=_;rw[ip hlt,pK,<-hn,di hlt];rfl
   clear hn hm hnm;have aR:(k:Int)<(ns.length:Int):=by omega
   have bC:=HR.out.1;go_wp2_with(first|(go_at_call 126;refine ai (IT.out _) ?_;rintro e w' ⟨rfl,rfl⟩)|(at_builtin;refine wpList_append_own _ rfl _ _ 223 rfl w.heap.size 9 i0 (.string ⟨#[]⟩) 1 16 Tryz.underlying223 hi dJ fy fB rfl (by decide) _ _ _ rfl (bC.alloc _) _ 1 1 [wd n] rfl rfl (gM _ _ _) (Vs _) (by unfold maxLen;omega) (by omega) (by rw[aA];have:=HR.out.2.size;omega) ?_));intro v' w1 ho hg _;have hb1:Hid (Bt w w1):=(HR.out.2.alloc (by have:=HR.out.2.size;omega) _).grown hg (by rw[aA];have:=HR.out.2.size;omega) (fun q hq=>by have:=(bC.lt q hq).1;omega);have HO:Hid (w1.ownsRow w.heap.size 9 1 v' (k+1) ((ns.take (k+1)).map wd)):=by rw[HT.out];first|exact ho|(rw[List.map_take];exact ho)
   clear ho hg bC;go_wp2;go_roundw;case rel=>exact⟨k+1,by omega,by go_num,HO.out,hb1.out⟩
   case measure=>simp[intOf];omega
  ·have aR:¬(k:Int)<(ns.length:Int):=by omega
   have jd:k=ns.length:=by omega
   have HK:Hid (wr.ownsRow w.heap.size 9 1 u3 ns.length (ns.map wd)):=by have:=HR.out.1;rw[jd,l6]at this;exact this
   obtain⟨g,cp,cM,rfl,hbg,hg,Tu⟩:∃g cp cM,u3=.slice (some (aq g 0)) ns.length cp/\w.heap.size<=g/\wr.heap[g]?=some (.cells cM 9 (0,0))/\ns.length<=cp:=by
    rcases HK.out.2 with⟨_,h⟩|⟨g,cp,cM,h,h1,h2,h3,_⟩;·omega
    ·exact⟨g,cp,cM,h,h1,h2,h3⟩
   have JJ:Hid (Calls Tryz.prog 208 #[.slice (some (aq g 0)) ns.length cp,.string ⟨#[59]⟩] wr fun e w'=>e=Rw (.string ⟨(Lib.join (ns.map dc) [59]).toArray⟩)/\Bt wr w'):=by
    have:=Pb g 0 cp (ns.map (fun n=>(⟨(dc n).toArray⟩:ByteArray))) ⟨#[59]⟩ wr ?_ (az.1 hg).1 (by rw[rU];omega) (by rw[rU];exact Tu) ?_;·rw[rU,Ct]at this;exact this
    ·intro j x hx;have:=HK.out.cells (g:=g) rfl j (.string x) (by
      rw[vK]at hx⊢;cases h:ns[j]? with
      |none=>rw[h]at hx;simp at hx
      |some q=>rw[h]at hx;simp at hx;subst hx;rfl);have e:((aq g 0):Addr).add j=(aq g (0+j)):=by unfold Addr.add;split<;>simp_all
     rwa[e]at this
    ·rw[Ct];have:=uH ns HS.out;show(Lib.join (ns.map dc) [59]).length<=_;omega
   clear hbg hg Tu HK;obtain⟨J,hJ⟩:∃q,Lib.join (ns.map dc) [59]=q:=⟨_,rfl⟩;have HJ:Hid (sq ns=[27,91]++(J++[109])):=by show _=_;unfold sq;rw[hJ]
   rw[hJ]at JJ;have jl:=uH ns HS.out;rw[hJ]at jl;have j1:¬9223372036854775807<2+J.length:=by omega
   have j2:¬9223372036854775807<2+J.length+1:=by omega
   clear hJ jl;go_wp2_with(go_at_call 208;refine ai JJ.out ?_;rintro e w2 ⟨rfl,dE⟩);go_ret;refine⟨?_,HR.out.2.trans (dE.mono HR.out.2.size)⟩;rw[HJ.out];refine congrArg (fun q=>Ending.returned (Value.string q)) ?_;show(⟨[27,91].toArray⟩:ByteArray)++(⟨J.toArray⟩:ByteArray)++(⟨[109].toArray⟩:ByteArray)=_;rw[DZ,DZ,bY]
structure cL(Q:World)(B b:Nat)(p v:Value)(W a f g d:Int)(l:List UInt8):Prop where
 low:B<=b
 hp:p=.pointer none\/p=.pointer (some (aq b 0))
 at_:Q.heap[b]?=some (.cells #[p,v,.int .i64 W,.int .i64 a,.int .i64 f,.int .i64 g,.int .i64 d] 110 (0,0))
 own:Q.ownsRowF B 5 1 v l.length (Lib.byteCells l)
 ne:v.ownBlock≠some b
theorem zN(b:Nat)(w:World)(h0:w.cell? (aq b 0)=some (.pointer (some (aq b 0)))):
 Calls Tryz.prog 67 #[.pointer (some (aq b 0))] w fun e w'=>e=Rw (.tuple #[])/\w'=w:=by obtain⟨j,hj,_⟩:=kP.1 (by kernel_rfl:(Tryz.prog.info? 108).map (·.size)=some 2);go_enter Tryz.func67,Tryz.ntmps67;go_wp2;rw[Lib.run_neq_ptr_same w _ (by kernel_rfl:Tryz.prog.underlying 105=some (.pointer 108)) hj];go_wp2;go_end0;exact⟨rfl,rfl⟩
theorem wT(b:Nat)(w:World)(h0:w.cell? (aq b 0)=some (.pointer none))(hsh:w.shape? b=some (110,7))(Wp:w.frozen? (aq b 0)=false):
 Calls Tryz.prog 67 #[.pointer (some (aq b 0))] w fun e w'=>e=Rw (.tuple #[])/\w'=w.setCell (aq b 0) (.pointer (some (aq b 0))):=by
 obtain⟨j,hj,ut⟩:=kP.1 (by kernel_rfl:(Tryz.prog.info? 108).map (·.size)=some 2);have t70:Tryz.prog.underlying 105=some (.pointer 108):=by kernel_rfl
 have t164:Tryz.prog.underlying 181=some .unsafePointer:=by kernel_rfl
 have hl:liesAt Tryz.prog Tryz.prog.depth 110 (7/Tryz.prog.cellsOf 110) 0 108 1=true:=by kernel_rfl
 go_enter Tryz.func67,Tryz.ntmps67;go_wp2;rw[Lib.run_to_unsafe w (aq b 0) t70 t164 hj (by rw[ut];decide) hsh (Nat.zero_lt_succ 6)];simp only[Result.andThen];rw[D4];go_wp2;rw[run_callFunc_extern Tryz.func125 (by kernel_rfl) (by kernel_rfl) (by kernel_rfl) (e:=Extern.AbiNoEscape.same) (by kernel_rfl)];rw[Lib.run_noEscape];simp only[Result.andThen];rw[D4];go_wp2;rw[Lib.run_from_unsafe w (aq b 0) t164 t70 hj hsh hl];simp only[Result.andThen];rw[D4];go_wp2;go_end0;exact⟨rfl,rfl⟩
theorem cL.cell{Q:World}{B b:Nat}{p v:Value}{W a f g d:Int}{l:List UInt8}(h:cL Q B b p v W a f g d l){k:Nat}{u:Value}(hk:#[p,v,.int .i64 W,.int .i64 a,.int .i64 f,.int .i64 g,.int .i64 d][k]?=some u):Q.cell? (aq b k)=some u:=by rw[Lib.cell_of_heap h.at_];exact hk
theorem cL.fz{Q:World}{B b:Nat}{p v:Value}{W a f g d:Int}{l:List UInt8}(h:cL Q B b p v W a f g d l)(k:Nat):Q.frozen? (aq b k)=false:=Lib.frozen_of_heap h.at_ k
theorem cL.lt{Q:World}{B b:Nat}{p v:Value}{W a f g d:Int}{l:List UInt8}(h:cL Q B b p v W a f g d l):b<Q.heap.size:=(az.1 h.at_).1
theorem UH:(110:TypeId)≠5:=by decide
theorem cL.set{Q:World}{B b:Nat}{p v:Value}{W a f g d:Int}{l:List UInt8}(h:cL Q B b p v W a f g d l)(k:Nat)(u:Value):(Q.setCell (aq b k) u).heap[b]?=some (.cells (#[p,v,.int .i64 W,.int .i64 a,.int .i64 f,.int .i64 g,.int .i64 d].setIfInBounds k u) 110 (0,0))/\(Q.setCell (aq b k) u).ownsRowF B 5 1 v l.length (Lib.byteCells l):=by
 refine⟨heap_setCell_same Q b k _ _ u h.at_,h.own.1,?_⟩;rcases h.own.2 with q|⟨c,cap,cM,fz,hv,hb,hg,r⟩;·exact .inl q
 ·have BR:c≠b:=by intro e;subst e;exact h.ne (by rw[hv];rfl)
  exact .inr ⟨c,cap,cM,fz,hv,hb,by rw[heap_setCell_other];exact hg;exact BR,r⟩
theorem Df(B b:Nat)(p v:Value)(W a f g d:Int)(l:List UInt8)(w:World)(h:cL w B b p v W a f g d l):
 Calls Tryz.prog 67 #[.pointer (some (aq b 0))] w fun e w'=>e=Rw (.tuple #[])/\cL w' B b (.pointer (some (aq b 0))) v W a f g d l/\Below B w w'/\Lib.OthersKept 5 (some b) w w':=by
 rcases h.hp with rfl|rfl;·refine(wT b w (h.cell (k:=0) rfl) (by simp[World.shape?,h.at_]) (h.fz 0)).mono ?_;rintro e w' ⟨rfl,rfl⟩;have q:=h.set 0 (.pointer (some (aq b 0)));exact⟨rfl,⟨h.low,.inr rfl,q.1,q.2,h.ne⟩,(ag B w).setCell (p:=(aq b 0)) h.low _,(Lib.OthersKept.refl _ _ w).setCell (aq b 0) rfl _⟩
 ·refine(zN b w (h.cell (k:=0) rfl)).mono ?_;rintro e w' ⟨rfl,rfl⟩;exact⟨rfl,h,ag B _,Lib.OthersKept.refl _ _ _⟩
theorem eM(B b:Nat)(p v:Value)(W a f g d:Int)(l:List UInt8)(s:ByteArray)(w:World)(h:cL w B b p v W a f g d l)(aO:l.length+s.size<=140737488355328)(hBw:B<=w.heap.size):
 Calls Tryz.prog 42 #[.pointer (some (aq b 0)),.string s] w fun e w'=>e=Rw (.tuple #[.int .i64 s.size,.nilIface])/\∃v',cL w' B b (.pointer (some (aq b 0))) v' W a f g d (l++s.data.toList)/\Below B w w'/\Lib.OthersKept 5 (some b) w w':=by
 obtain⟨i0,hi,dJ,fy,fB⟩:=info_parts (by kernel_rfl:(Tryz.prog.info? 5).map (fun i=>(i.zero,i.size,i.bytes))=some (some (.int .u8 0),1,1));have CC:Hid (∀w,cL w B b p v W a f g d l->Calls Tryz.prog 67 #[.pointer (some (aq b 0))] w fun e w'=>e=Rw (.tuple #[])/\cL w' B b (.pointer (some (aq b 0))) v W a f g d l/\Below B w w'/\Lib.OthersKept 5 (some b) w w'):=Df B b p v W a f g d l;have HP:Hid (cL w B b p v W a f g d l):=h;clear h;go_enter Tryz.func42,Tryz.ntmps42;go_wp2_with fail;refine(CC.out _ HP.out).mono ?_;rintro e w1 ⟨rfl,h1,hb1,El⟩;have c0:w1.cell? (aq b 0)=some (.pointer (some (aq b 0))):=h1.cell (k:=0) rfl;have c1:w1.cell? (aq b 1)=some v:=h1.cell (k:=1) rfl;go_wp2_with(at_builtin;refine Lib.wpList_append_own_stringF _ rfl _ _ 106 9 rfl B 5 i0 (by kernel_rfl) (by kernel_rfl) hi dJ fy fB _ _ _ rfl h1.own s rfl ?c3 ?c4 ?c5 ?_);case c3=>unfold maxLen;omega
 case c4=>omega
 case c5=>have:=hb1.size;omega
 intro v' w2 bS jo _;have dE:w2.heap[b]?=some (.cells #[.pointer (some (aq b 0)),v,.int .i64 W,.int .i64 a,.int .i64 f,.int .i64 g,.int .i64 d] 110 (0,0)):=by rw[jo.block b h1.lt (fun e=>h1.ne e.symm)];exact h1.at_
 have d0:w2.cell? (aq b 0)=some (.pointer (some (aq b 0))):=by rw[Lib.cell_of_heap dE];rfl
 have d1:w2.cell? (aq b 1)=some v:=by rw[Lib.cell_of_heap dE];rfl
 have f1:w2.frozen? (aq b 1)=false:=Lib.frozen_of_heap dE 1;have bj:v'.ownBlock≠some b:=Lib.ownBlock_neF bS dE UH;have jT:w2.ownsRowF B 5 1 v' (l++s.data.toList).length (Lib.byteCells (l++s.data.toList)):=by rw[Lib.byteCells_append,aI];have e1:s.data.toList.length=s.size:=rfl;rw[e1];exact bS
 obtain⟨ao,n',cap,rfl⟩:∃ao n' cap,v'=.slice ao n' cap:=by
  rcases bS.2 with⟨hv,_⟩|⟨g,cap,cM,fz,hv,_⟩;·exact⟨_,_,_,hv⟩
  ·exact⟨_,_,_,hv⟩
 go_wp2;go_ret2;refine⟨rfl,.slice ao n' cap,?_,(hb1.grown jo (by have:=hb1.size;omega) (fun k hk=>(h1.own.lt k hk).1)).setCell (p:=(aq b 1)) h1.low _,(El.grown jo (Lib.ownsRowF_kind h1.own)).setCell (aq b 1) rfl _⟩;refine⟨h1.low,.inr rfl,heap_setCell_same w2 b 1 _ _ _ dE,?_,bj⟩;exact jT.kept (row:=some b) ⟨rfl,rfl,rfl,by simp[World.setCell],fun k _ hk=>bv _ _ _ _ (fun e=>hk (by simp[e]))⟩ (Or.inr bj)
section
open Go.Shelf
theorem Po:Go.Proofs.LaysM.n171 Tryz.prog Vv:={Ie with
 i0:=by kernel_rfl
 i2:=by kernel_rfl
 i3:=by kernel_rfl
 i4:=by kernel_rfl
 i5:=by kernel_rfl
 i9:=by kernel_rfl
 i20:=by kernel_rfl
 i37:=by kernel_rfl
 i46:=by kernel_rfl
 i51:=by kernel_rfl
 i53:=by kernel_rfl
 i171:=by kernel_rfl
 i173:=by kernel_rfl
 i212:=by kernel_rfl
 i232:=by kernel_rfl
 i233:=by kernel_rfl
 m17:=by kernel_rfl
 m18:=by kernel_rfl
 m19:=by kernel_rfl}
def dC(w:World):Prop:=∃nm:String,Tryz.prog.globalNamed nm=some 12/\Lib.TabIs Tryz.prog w nm .u64 Lib.pow10Tab
theorem QA{P:Program}{w:World}{n n':String}{k:IntKind}{zs:List Int}{g:Nat}(h1:P.globalNamed n=some g)(h2:P.globalNamed n'=some g)(h:Lib.TabIs P w n k zs):Lib.TabIs P w n' k zs:=by unfold Lib.TabIs World.var? at*;rw[h1]at h;rw[h2];exact h
theorem dC.below{w w':World}{B:Nat}(h:dC w)(hb:Below B w w')(hg:12<B):dC w':=by obtain⟨nm,h1,h2⟩:=h;refine⟨nm,h1,?_⟩;unfold Lib.TabIs World.var? at*;rw[h1]at h2⊢;simp only[Option.bind_some]at h2⊢;have:w'.heap[12]?=w.heap[12]?:=hb.block _ hg;rw[this];exact h2
theorem oR(n:Nat)(hn:n<=1000000)(w:World)(ht:dC w):
 Calls Tryz.prog 126 #[.int .i64 n] w fun e w'=>e=Rw (.string ⟨(Lib.decDigits n).toArray⟩)/\Gr w w':=by
 obtain⟨nm,h1,h2⟩:=ht;refine(Any.strconv_Itoa Po n (by omega) (by omega) w (QA h1 (by kernel_rfl) h2)).mono fun e w' ⟨h,k,os,hw⟩=>?_;refine⟨?_,?_⟩
 ·rw[h];have:Lib.itoa (n:Int)=Lib.decDigits n:=by
   unfold Lib.itoa;first
    |rw[if_neg (by omega)];rfl
    |simp
  rw[this]
 ·exact⟨k,os,hw⟩
end
theorem yW{x y z x2 y2 z2:Int}(h:¬(x=x2/\y=y2/\z=z2))(hz:¬z2<z):0<(jP x y z x2 y2 z2).length:=by
 unfold jP gp Al Ak;by_cases h1:z<z2;·rw[if_pos h1];simp
 ·rw[if_neg h1];by_cases h2:x2=x;·have h3:¬y2=y:=fun e=>h ⟨h2.symm,e.symm,by omega⟩;rw[if_neg h3];simp
  ·rw[if_neg h2];simp
theorem po{w:World}{B:Nat}{v:Value}{ns:List Int}(h:w.ownsRow B 3 1 v ns.length (ns.map (Value.int .i64)))(hp:0<ns.length):
 ∃g cap,v=.slice (some (aq g 0)) ns.length cap/\g<w.heap.size/\B<=g/\∀j,j<ns.length->w.cell? (aq g (0+j))=some (.int .i64 (ns[j]?.getD 0)):=by
 rcases h.2 with⟨_,h2⟩|⟨g,cap,cM,h1,h2,h3,_⟩;·omega
 ·refine⟨g,cap,h1,(az.1 h3).1,h2,fun j hj=>?_⟩;have:=h.cells (g:=g) (by rw[h1];rfl) j (.int .i64 (ns[j]?.getD 0)) (by simp[hj]);have e:((aq g 0):Addr).add j=(aq g (0+j)):=by unfold Addr.add;split<;>simp_all
  rwa[e]at this
theorem Iz{g:Nat}{w:World}{ns:List Int}(hc:∀j,j<ns.length->w.cell? (aq g (0+j))=some (.int .i64 (ns[j]?.getD 0)))(j:Nat)(u:Value)(hj:(ns.map (Value.int .i64))[j]?=some u):w.cell? (((aq g 0):Addr).add j)=some u:=by
 have e:((aq g 0):Addr).add j=(aq g (0+j)):=by unfold Addr.add;split<;>simp_all
 rw[vK]at hj;have OA:j<ns.length:=by
  rcases yr j ns.length with h|h;·exact h
  ·rw[vL h]at hj;cases hj
 rw[e,hc j OA];rw[di OA]at hj⊢;exact hj
theorem Dw{ns:List Int}(u:Value)(hu:u∈ns.map (Value.int .i64)):u.oneCell'=true:=by obtain⟨z,_,rfl⟩:=lZ.1 hu;rfl
theorem UE{w:World}{base g:Nat}{x:Int}(h:w.heap[g]?=some (.cells #[.int .i64 x] 3 (0,0)))(hb:base<=g):w.ownsRow base 3 1 (.slice (some (aq g 0)) 1 1) 1 [.int .i64 x]:=
 ⟨rfl,.inr ⟨g,1,#[.int .i64 x],rfl,hb,h,ae _,by decide,rfl,rfl⟩⟩
theorem Gu:fH [0]:=by intro n hn;simp at hn;omega
theorem EI{L:List Int}(h:fH L):fH (0::L):=by
 intro n hn;rcases ja.1 hn with rfl|h1;·omega
 ·exact h n h1
theorem QS(w:World):Calls Tryz.prog 170 #[.slice (some (aq w.heap.size 0)) 1 1] (w.alloc (.cells #[.int .i64 0] 3)) fun e w'=>e=Rw (.string ⟨(sq [0]).toArray⟩)/\Below (w.alloc (.cells #[.int .i64 0] 3)).heap.size (w.alloc (.cells #[.int .i64 0] 3)) w':=
 jI [0] w.heap.size 0 1 _ (by decide) (by rw[aA];omega) (fun j hj=>by
  obtain rfl:j=0:=by simp at hj;omega
  exact gM w (.int .i64 0) 3 0 _ rfl) Gu (by decide)
theorem JV(f g b f2 g2 b2:Int)(w:World):Calls Tryz.prog 127 #[sv f g b,sv f2 g2 b2] w fun e w'=>e=Rw (.string ⟨(Hb (cJ (kn f) (kn g) (bo b) (kn f2) (kn g2) (bo b2))).toArray⟩)/\Bt w w':=by
 have CC:Hid (∀f g b w,Calls Tryz.prog 128 #[sv f g b] w fun e w'=>e=Rw (sv (kn f) (kn g) (bo b))/\Gr w w'):=jm;unfold sv at CC⊢;go_enter Tryz.func127,Tryz.ntmps127;go_wp2_with fail;obtain⟨S,hS⟩:∃x,w.heap.size=x:=⟨_,rfl⟩;obtain⟨W0,bc⟩:∃x,(w.alloc (.cells #[.int .i64 f,.int .i64 g,.int .i64 b] 45)).alloc (.cells #[.int .i64 f2,.int .i64 g2,.int .i64 b2] 45)=x:=⟨_,rfl⟩;have G0:Hid (Gr w W0):=by rw[<-bc];exact((Gr.refl w).alloc _).alloc _
 have RA:Hid (R3 45 W0 S f g b):=by rw[<-bc,<-hS];exact(R3.new w _ _ _ _).gr ((Gr.refl _).alloc _)
 have RB:Hid (R3 45 W0 (S+1) f2 g2 b2):=by have:=R3.new (w.alloc (.cells #[.int .i64 f,.int .i64 g,.int .i64 b] 45)) f2 g2 b2 45;simp only[aA,hS]at this;rw[<-bc];exact this
 rw[bc,hS];clear bc;have HS:Hid (w.heap.size=S):=hS;clear hS;have a0:=RA.out.c0;have a1:=RA.out.c1;have a2:=RA.out.c2;have b0:=RB.out.c0;have b1:=RB.out.c1;have Nl:=RB.out.c2;obtain⟨x,hx⟩:∃z,kn f=z:=⟨_,rfl⟩;obtain⟨y,hy⟩:∃z,kn g=z:=⟨_,rfl⟩;obtain⟨z,hz⟩:∃z,bo b=z:=⟨_,rfl⟩;obtain⟨x2,ky⟩:∃z,kn f2=z:=⟨_,rfl⟩;obtain⟨y2,zy⟩:∃z,kn g2=z:=⟨_,rfl⟩;obtain⟨z2,fB⟩:∃z,bo b2=z:=⟨_,rfl⟩;have HV:Hid (cJ (kn f) (kn g) (bo b) (kn f2) (kn g2) (bo b2)=cJ x y z x2 y2 z2):=by show _=_;rw[hx,hy,hz,ky,zy,fB]
 have bz:=xo b;have bz2:=xo b2;have bx2:=Ck f2;have RF:=Ck g2;rw[ky]at bx2;rw[zy]at RF;rw[hz]at bz;rw[fB]at bz2;have C1:=CC.out f g b;have C2:=CC.out f2 g2 b2;rw[hx,hy,hz]at C1;rw[ky,zy,fB]at C2;go_cut[2,3]from 6 to 9 (fun u v wx=>u=.pointer (some (aq S 0))/\v=.pointer (some (aq (S+1) 0))/\Hid (R3 45 wx S x y z/\R3 45 wx (S+1) x2 y2 z2/\Gr w wx));case first=>
  go_region_with(go_at_call 128;(first|(with_reducible refine ai (C1 _) ?_)|(with_reducible refine ai (C2 _) ?_));rintro e wn ⟨rfl,E8⟩;have k_:Hid (Gr W0 wn):=(by first|exact((Gr.refl W0).drew).trans E8|exact Gr.trans (rR (by assumption)) E8);have mV:Hid (R3 45 wn S f g b):=RA.out.gr k_.out;have pN:Hid (R3 45 wn (S+1) f2 g2 b2):=RB.out.gr k_.out;clear E8;have m0:=mV.out.c0;have m1:=mV.out.c1;have m2:=mV.out.c2;have n0:=pN.out.c0;have n1:=pN.out.c1;have n2:=pN.out.c2;have f0:=mV.out.fz 0;have f1:=mV.out.fz 1;have f2':=mV.out.fz 2;have g0:=pN.out.fz 0;have g1:=pN.out.fz 1;have We:=pN.out.fz 2);all_goals
   have HO:Hid (R3 45 ((((((wn.setCell (aq S 0) (.int .i64 x)).setCell (aq S 1) (.int .i64 y)).setCell (aq S 2) (.int .i64 z)).setCell (aq (S+1) 0) (.int .i64 x2)).setCell (aq (S+1) 1) (.int .i64 y2)).setCell (aq (S+1) 2) (.int .i64 z2)) S x y z/\R3 45 ((((((wn.setCell (aq S 0) (.int .i64 x)).setCell (aq S 1) (.int .i64 y)).setCell (aq S 2) (.int .i64 z)).setCell (aq (S+1) 0) (.int .i64 x2)).setCell (aq (S+1) 1) (.int .i64 y2)).setCell (aq (S+1) 2) (.int .i64 z2)) (S+1) x2 y2 z2/\Gr w ((((((wn.setCell (aq S 0) (.int .i64 x)).setCell (aq S 1) (.int .i64 y)).setCell (aq S 2) (.int .i64 z)).setCell (aq (S+1) 0) (.int .i64 x2)).setCell (aq (S+1) 1) (.int .i64 y2)).setCell (aq (S+1) 2) (.int .i64 z2))):=
    ⟨(mV.out.set x y z).others (by omega) _ _ _,(pN.out.others (by omega) _ _ _).set x2 y2 z2,((G0.out.trans k_.out).set3 (by rw[HS.out];omega) _ _ _).set3 (by rw[HS.out];omega) _ _ _⟩;clear m0 m1 m2 n0 n1 n2 f0 f1 f2' g0 g1 We a0 a1 a2 b0 b1 Nl mV pN;go_wp2_with fail;go_meet;exact⟨rfl,rfl,HO.out⟩
 case rest=>
  obtain⟨rfl,rfl,HO⟩:=hcut;clear a0 a1 a2 b0 b1 Nl RA RB;have a0:=HO.out.1.c0;have a1:=HO.out.1.c1;have a2:=HO.out.1.c2;have b0:=HO.out.2.1.c0;have b1:=HO.out.2.1.c1;have Nl:=HO.out.2.1.c2;have al:=HO.out.1.lt;have bl:=HO.out.2.1.lt;have qV:Hid (0<=x2/\x2<=8/\0<=y2/\y2<=8):=⟨bx2.1,bx2.2,RF.1,RF.2⟩;obtain⟨i0,hi,dJ,fy,zcr⟩:=info_parts QR;clear CC C1 C2 hx hy hz ky zy fB bx2 RF;have g0:=HO.out.1.fz 0;have Wc:=HO.out.1.fz 1;have We:=HO.out.1.fz 2;by_cases h1:x=x2/\y=y2/\z=z2;·have HN:Hid (cJ x y z x2 y2 z2=[]):=if_pos h1;obtain⟨rfl,rfl,rfl⟩:=h1;go_wp2;go_ret;exact⟨by rw[HV.out,HN.out];rfl,HO.out.2.2.below⟩
  have H1:Hid (¬(x=x2/\y=y2/\z=z2)):=h1;have c1:((x==x2)=false)\/((x==x2)=true/\(y==y2)=false)\/((x==x2)=true/\(y==y2)=true/\(z==z2)=false):=by
   by_cases e1:x=x2
   ·by_cases e2:y=y2;·refine .inr (.inr ⟨by simpa using e1,by simpa using e2,by simpa using fun e3=>H1.out ⟨e1,e2,e3⟩⟩)
    ·exact .inr (.inl ⟨by simpa using e1,by simpa using e2⟩)
   ·exact .inl (by simpa using e1)
  clear h1;rcases c1 with ta0|⟨ta0,ta1⟩|⟨ta0,ta1,ta2⟩;all_goals
   by_cases h2:x2=0/\y2=0/\z2=0
   ·have H2:Hid (x2=0/\y2=0/\z2=0):=h2;have tp0:(x2==0)=true:=by simpa using h2.1
    have tp1:(y2==0)=true:=by simpa using h2.2.1
    have tp2:(z2==0)=true:=by simpa using h2.2.2
    clear h2;have HN:Hid (cJ x y z x2 y2 z2=[0]):=by show _=_;unfold cJ;rw[if_neg H1.out,if_pos H2.out]
    go_wp2_with(go_at_call 170;refine ai (QS _) ?_;rintro e w3 ⟨rfl,b3⟩);go_ret;exact⟨by rw[HV.out,HN.out];rfl,(HO.out.2.2.alloc _).below.trans (b3.mono (HO.out.2.2.alloc _).size)⟩
   have H2:Hid (¬(x2=0/\y2=0/\z2=0)):=h2;have c2:((x2==0)=false)\/((x2==0)=true/\(y2==0)=false)\/((x2==0)=true/\(y2==0)=true/\(z2==0)=false):=by
    by_cases e1:x2=0
    ·by_cases e2:y2=0;·refine .inr (.inr ⟨by simpa using e1,by simpa using e2,by simpa using fun e3=>H2.out ⟨e1,e2,e3⟩⟩)
     ·exact .inr (.inl ⟨by simpa using e1,by simpa using e2⟩)
    ·exact .inl (by simpa using e1)
   clear h2;rcases c2 with tb0|⟨tb0,tb1⟩|⟨tb0,tb1,tb2⟩;all_goals
    by_cases h3:z2<z
    ·have oK:0<(jP 0 0 0 x2 y2 z2).length:=yW (fun e=>H2.out ⟨e.1.symm,e.2.1.symm,e.2.2.symm⟩) (by have:=bz2;omega);have TB:=sQ 0 0 0 x2 y2 z2;have GF:fH (jP 0 0 0 x2 y2 z2):=mc ⟨qV.out.1,qV.out.2.1⟩ ⟨qV.out.2.2.1,qV.out.2.2.2⟩;have CH:Hid (∀w,Calls Tryz.prog 169 #[sv 0 0 0,sv x2 y2 z2] w fun e w'=>∃v,e=Rw v/\w'.ownsRow w.heap.size 3 1 v (jP 0 0 0 x2 y2 z2).length ((jP 0 0 0 x2 y2 z2).map (Value.int .i64))/\Bt w w'):=fun w=>qZ _ _ _ _ _ _ w ⟨qV.out.1,qV.out.2.1⟩ ⟨qV.out.2.2.1,qV.out.2.2.2⟩;have HN:Hid (cJ x y z x2 y2 z2=0::jP 0 0 0 x2 y2 z2):=by show _=_;unfold cJ;rw[if_neg H1.out,if_neg H2.out,if_pos h3]
     obtain⟨L,hL⟩:∃q,jP 0 0 0 x2 y2 z2=q:=⟨_,rfl⟩;rw[hL]at oK TB GF CH HN;have vO:Hid (fH L):=GF;clear hL GF;unfold sv at CH;have GX:Hid (Gr w ((((wc.setCell (aq S 0) (.int .i64 0)).setCell (aq S 1) (.int .i64 0)).setCell (aq S 2) (.int .i64 0)).alloc (.cells #[.int .i64 0] 3))):=(HO.out.2.2.set3 (by rw[HS.out];omega) _ _ _).alloc _;have BX:Hid (((((wc.setCell (aq S 0) (.int .i64 0)).setCell (aq S 1) (.int .i64 0)).setCell (aq S 2) (.int .i64 0)).alloc (.cells #[.int .i64 0] 3)).heap[wc.heap.size]?=some (.cells #[.int .i64 0] 3 (0,0))):=by have:=heap_alloc_new (((wc.setCell (aq S 0) (.int .i64 0)).setCell (aq S 1) (.int .i64 0)).setCell (aq S 2) (.int .i64 0)) (.cells #[.int .i64 0] 3);rw[show(((wc.setCell (aq S 0) (.int .i64 0)).setCell (aq S 1) (.int .i64 0)).setCell (aq S 2) (.int .i64 0)).heap.size=wc.heap.size by simp[World.setCell]]at this;exact this
     go_wp2_with(first|(go_at_call 169;refine ai (CH.out _) ?_;rintro e w1 ⟨v1,rfl,o1,b1⟩;obtain⟨g1,pX,rfl,lt1,_,c1⟩:=po o1 oK;have RW:Hid (w1.ownsRow w.heap.size 3 1 (.slice (some (aq wc.heap.size 0)) 1 1) 1 [.int .i64 0]):=(UE ((b1.block _ (az.1 BX.out).1).trans BX.out) (by have:=HO.out.2.2.size;omega):w1.ownsRow w.heap.size 3 1 (.slice (some (aq wc.heap.size 0)) 1 1) 1 [.int .i64 0]);have B1:Hid (Bt w w1):=(GX.out.below).trans (b1.mono (GX.out.below).size);have C1':Hid (∀j,j<L.length->w1.cell? (aq g1 (0+j))=some (.int .i64 (L[j]?.getD 0))):=c1;clear c1 b1 o1)|(at_builtin;refine wpList_append_own _ rfl _ _ 34 rfl w.heap.size 3 i0 (.int .i64 0) 1 8 Tryz.underlying34 hi dJ fy zcr rfl (by decide) _ _ _ rfl RW.out (aq g1 0) L.length pX (L.map (Value.int .i64)) rfl (by rw[rU,Ea]) (Iz C1'.out) Dw (by unfold maxLen;omega) (by omega) B1.out.size ?_;intro v2 w2 o2 q2 _;have O2:w2.ownsRow w.heap.size 3 1 v2 (0::L).length ((0::L).map (Value.int .i64)):=(by have:=o2;rw[vF]at this;exact this);have B2:Hid (Bt w w2):=B1.out.grown q2 B1.out.size (fun k hk=>(RW.out.lt k hk).1);obtain⟨g2,oA,rfl,lt2,_,c2⟩:=po O2 (by first|exact oK|simp);have C2':Hid (∀j,j<(0::L).length->w2.cell? (aq g2 (0+j))=some (.int .i64 ((0::L)[j]?.getD 0))):=c2;clear c2 o2 q2 O2)|(go_at_call 170;refine ai (jI (0::L) g2 0 oA _ (by first|exact oK|simp) lt2 C2'.out (EI vO.out) (by first|(simp;omega)|omega)) ?_;rintro e w3 ⟨rfl,b3⟩));go_ret;exact⟨by rw[HV.out,HN.out];first|rfl|(unfold Hb;rw[if_neg (by intro e;rw[e]at oK;simp at oK)];rfl),B2.out.trans (b3.mono B2.out.size)⟩
    ·replace h3:z<=z2:=by omega
     have oK:0<(jP x y z x2 y2 z2).length:=yW H1.out (by omega);have TB:=sQ x y z x2 y2 z2;have GF:fH (jP x y z x2 y2 z2):=mc ⟨qV.out.1,qV.out.2.1⟩ ⟨qV.out.2.2.1,qV.out.2.2.2⟩;have CH:Hid (∀w,Calls Tryz.prog 169 #[sv x y z,sv x2 y2 z2] w fun e w'=>∃v,e=Rw v/\w'.ownsRow w.heap.size 3 1 v (jP x y z x2 y2 z2).length ((jP x y z x2 y2 z2).map (Value.int .i64))/\Bt w w'):=fun w=>qZ _ _ _ _ _ _ w ⟨qV.out.1,qV.out.2.1⟩ ⟨qV.out.2.2.1,qV.out.2.2.2⟩;have HN:Hid (cJ x y z x2 y2 z2=jP x y z x2 y2 z2):=by show _=_;unfold cJ;rw[if_neg H1.out,if_neg H2.out,if_neg (by omega)]
     obtain⟨L,hL⟩:∃q,jP x y z x2 y2 z2=q:=⟨_,rfl⟩;rw[hL]at oK TB GF CH HN;have vO:Hid (fH L):=GF;clear hL GF;unfold sv at CH;go_wp2_with(first|(go_at_call 169;refine ai (CH.out _) ?_;rintro e w1 ⟨v1,rfl,o1,b1⟩;obtain⟨g1,pX,rfl,lt1,_,c1⟩:=po o1 oK;have RW:Hid (w1.ownsRow w.heap.size 3 1 (.slice none 0 0) 0 []):=jb _ _ _ _;have B1:Hid (Bt w w1):=(HO.out.2.2.below).trans (b1.mono (HO.out.2.2.below).size);have C1':Hid (∀j,j<L.length->w1.cell? (aq g1 (0+j))=some (.int .i64 (L[j]?.getD 0))):=c1;clear c1 b1 o1)|(at_builtin;refine wpList_append_own _ rfl _ _ 34 rfl w.heap.size 3 i0 (.int .i64 0) 1 8 Tryz.underlying34 hi dJ fy zcr rfl (by decide) _ _ _ rfl RW.out (aq g1 0) L.length pX (L.map (Value.int .i64)) rfl (by rw[rU,Ea]) (Iz C1'.out) Dw (by unfold maxLen;omega) (by omega) B1.out.size ?_;intro v2 w2 o2 q2 _;have O2:w2.ownsRow w.heap.size 3 1 v2 L.length (L.map (Value.int .i64)):=(by have:=o2;rw[cB,pL]at this;exact this);have B2:Hid (Bt w w2):=B1.out.grown q2 B1.out.size (fun k hk=>(RW.out.lt k hk).1);obtain⟨g2,oA,rfl,lt2,_,c2⟩:=po O2 (by first|exact oK|simp);have C2':Hid (∀j,j<L.length->w2.cell? (aq g2 (0+j))=some (.int .i64 (L[j]?.getD 0))):=c2;clear c2 o2 q2 O2)|(go_at_call 170;refine ai (jI L g2 0 oA _ (by first|exact oK|simp) lt2 C2'.out (vO.out) (by first|(simp;omega)|omega)) ?_;rintro e w3 ⟨rfl,b3⟩));go_ret;exact⟨by rw[HV.out,HN.out];first|rfl|(unfold Hb;rw[if_neg (by intro e;rw[e]at oK;simp at oK)];rfl),B2.out.trans (b3.mono B2.out.size)⟩
def sc:List UInt8->List Int->Int->Nat->Option (List Int)
 |[],l,_,_=>some l
 |c::r,l,n,d=>if 48<=c.toNat/\c.toNat<=57/\d<3 then sc r l (10*n+((c.toNat:Int)-48)) (d+1)else if d=0\/(c.toNat≠59/\r≠[])then none else sc r (l++[n]) 0 0
theorem d8{n:Int}(h:0<=n/\n<10):((48+n).toNat.toUInt8).toNat=(48+n).toNat:=by rw[UInt8.toNat_ofNat_of_lt'];show _<256;omega
theorem Qv{ns:List Int}(h:fH ns)(hp:ns≠[])(hl:ns.length<=4):4<=(sq ns).length/\(sq ns).length<=15:=by
 have h1:=uH ns h;have h2:1<=(Lib.join (ns.map dc) [59]).length:=by
  cases ns with
  |nil=>exact absurd rfl hp
  |cons n r=>have:=EK (h n (nj ..));rw[yq,Lib.join_cons,aI];omega
 unfold sq;simp only[aI,cP,fh];omega
theorem GP(a b:List Int)(f:Int):vZ (a++b) f=vZ b (vZ a f):=ym
theorem GQ(a b:List Int)(f:Int):v_ (a++b) f=v_ b (v_ a f):=ym
theorem GO(a b:List Int)(f:Int):vY (a++b) f=vY b (vY a f):=ym
theorem WL(n f:Int):vZ [n] f=LS n f:=rfl
theorem WM(n f:Int):v_ [n] f=LU n f:=rfl
theorem PJ(n f:Int):vY [n] f=M9 n f:=rfl
theorem YL{n:Int}(h:0<=n/\n<=8):(uz n 29 39=39/\n=0)\/(30<=uz n 29 39/\uz n 29 39<=37/\uz n 29 39=29+n):=by unfold uz;split<;>omega
theorem YM{n:Int}(h:0<=n/\n<=8):(uz n 39 49=49/\n=0)\/(40<=uz n 39 49/\uz n 39 49<=47/\uz n 39 49=39+n):=by unfold uz;split<;>omega
theorem XD(z z2 f:Int):vZ (gp z z2) f=f:=by unfold gp;split;exact yK (n:=1) f (by decide) (by decide) (by decide);rfl
theorem XE(z z2 f:Int):v_ (gp z z2) f=f:=by unfold gp;split;exact yL (n:=1) f (by decide) (by decide) (by decide);rfl
theorem XC{z z2:Int}(h:0<=z/\z<=z2/\z2<=1):vY (gp z z2) z=z2:=by
 unfold gp;split;·rw[PJ];unfold M9;simp;omega
 ·show z=z2;omega
theorem zfL{x x2:Int}(h:0<=x2/\x2<=8):vZ (Al x x2) x=x2:=by
 unfold Al;split;·show x=x2;omega
 ·rw[WL];rcases YL h with⟨e,e2⟩|⟨e1,e2,e3⟩;·rw[e,e2];rfl
  ·rw[M_ _ ⟨e1,e2⟩];omega
theorem zfM{x x2 g:Int}(h:0<=x2/\x2<=8):v_ (Al x x2) g=g:=by
 unfold Al;split;·rfl
 ·rw[WM];have:=YL h;exact yL g (by omega) (by omega) (by omega)
theorem zfK{x x2 g:Int}(h:0<=x2/\x2<=8):vY (Al x x2) g=g:=by
 unfold Al;split;·rfl
 ·rw[PJ];have:=YL h;exact tH g (by omega) (by omega) (by omega)
theorem zfy{x x2:Int}(h:0<=x2/\x2<=8):v_ (Ak x x2) x=x2:=by
 unfold Ak;split;·show x=x2;omega
 ·rw[WM];rcases YM h with⟨e,e2⟩|⟨e1,e2,e3⟩;·rw[e,e2];rfl
  ·rw[Na _ ⟨e1,e2⟩];omega
theorem zfx{x x2 g:Int}(h:0<=x2/\x2<=8):vZ (Ak x x2) g=g:=by
 unfold Ak;split;·rfl
 ·rw[WL];have:=YM h;exact yK g (by omega) (by omega) (by omega)
theorem zfw{x x2 g:Int}(h:0<=x2/\x2<=8):vY (Ak x x2) g=g:=by
 unfold Ak;split;·rfl
 ·rw[PJ];have:=YM h;exact tH g (by omega) (by omega) (by omega)
section
variable{x y z x2 y2 z2:Int}
theorem V9(hx:0<=x2/\x2<=8)(hy:0<=y2/\y2<=8):vZ (jP x y z x2 y2 z2) x=x2:=by unfold jP;rw[GP,GP,XD,zfL hx,zfx hy]
theorem V_(hx:0<=x2/\x2<=8)(hy:0<=y2/\y2<=8):v_ (jP x y z x2 y2 z2) y=y2:=by unfold jP;rw[GQ,GQ,XE,zfM hx,zfy hy]
theorem V8(hx:0<=x2/\x2<=8)(hy:0<=y2/\y2<=8)(hz:0<=z/\z<=z2/\z2<=1):vY (jP x y z x2 y2 z2) z=z2:=by unfold jP;rw[GO,GO,XC hz,zfK hx,zfw hy]
theorem PC(h:¬(x=x2/\y=y2/\z=z2))(fB:0<=z2/\z2<=1):cJ x y z x2 y2 z2≠[]:=by
 unfold cJ;rw[if_neg h];split;·simp
 ·rename_i h2;split;·simp
  ·rename_i h3;intro e;have:=yW h h3;rw[e]at this;simp at this
theorem Zo(hx:0<=x/\x<=8)(hy:0<=y/\y<=8)(hz:0<=z/\z<=1)(ky:0<=x2/\x2<=8)(zy:0<=y2/\y2<=8)(fB:0<=z2/\z2<=1)(h:¬(x=x2/\y=y2/\z=z2)):
 yN (cJ x y z x2 y2 z2) x=x2/\yO (cJ x y z x2 y2 z2) y=y2/\yM (cJ x y z x2 y2 z2) z=z2:=by
 have hn:=PC h fB;unfold yN yO yM;rw[if_neg hn,if_neg hn,if_neg hn,WF hx,WF hy,zaT hz];unfold cJ;rw[if_neg h];split;·rename_i h2;obtain⟨rfl,rfl,rfl⟩:=h2;exact⟨rfl,rfl,rfl⟩
 ·split
  ·refine⟨?_,?_,?_⟩;·show vZ (jP 0 0 0 x2 y2 z2) (LS 0 x)=x2;exact V9 ky zy
   ·show v_ (jP 0 0 0 x2 y2 z2) (LU 0 y)=y2;exact V_ ky zy
   ·show vY (jP 0 0 0 x2 y2 z2) (M9 0 z)=z2;exact V8 ky zy ⟨by omega,fB.1,fB.2⟩
  ·rename_i h3;exact⟨V9 ky zy,V_ ky zy,V8 ky zy ⟨hz.1,by omega,fB.2⟩⟩
end
