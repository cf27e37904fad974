import Derived.Test.YtnponhbgicbkcaaGreatDoorL00
import Derived.Lib.Bytealg
import Derived.Test.YtnponhbgicbkcaaGreatDoorL37
import Derived.Test.YtnponhbgicbkcaaGreatDoorL02
import Derived.Test.YtnponhbgicbkcaaGreatDoorL34
set_option linter.unusedVariables false
set_option maxRecDepth 100000
set_option maxHeartbeats 16000000
namespace Go.Proofs.YtnponhbgicbkcaaGreatDoor
section
open Go.RowKit Go.Shelf Go.Proofs.Tryz
attribute[local go_sem] Oper.semAt_some
theorem index_cases:∀ t ,(Lib.indexByte t 10=-1∧∀x∈t,x≠10)∨∃a b,t=a++10::b∧(∀x∈a,x≠10)∧Lib.indexByte t 10=(a.length:Int)
 |[]=>.inl ⟨rfl,fun x hx=>by cases hx⟩
 |c::t=>by
  by_cases e:c=10;·right;refine⟨[],t,by rw[e];rfl,fun x hx=>(by cases hx),?_⟩;unfold Lib.indexByte;rw[e];rfl
  ·have e2:(c==(10:UInt8))=false:=by simpa using e
   rcases index_cases t with⟨h1,h2⟩|⟨a,b,h1,h2,h3⟩
   ·left;refine⟨?_,fun x hx=>?_⟩;·unfold Lib.indexByte;rw[e2,h1];rfl
    ·rcases List.mem_cons.1 hx with rfl|hx;·exact e
     ·exact h2 x hx
   ·right;refine⟨c::a,b,by rw[h1];rfl,fun x hx=>?_,?_⟩
    ·rcases List.mem_cons.1 hx with rfl|hx;·exact e
     ·exact h2 x hx
    ·unfold Lib.indexByte;rw[e2,h3];have:((a.length:Int)==-1)=false:=by simp
     rw[this];simp
theorem indexByte_any s  c  w :Calls prog 205 #[.string s,.int .u8 c] w fun e w'=>e=.returned (Iq (Lib.indexByte s.data.toList c.toNat.toUInt8))∧w'=w:=by go_enter func205,ntmps205;go_wp2;rw[run_callFunc_extern func223 (by kernel_rfl) (by kernel_rfl) (by kernel_rfl) (e:=Extern.BytealgIndexByte.indexByte) (by kernel_rfl),Lib.run_indexByteString];simp only[Result.andThen];rw[Oper.upon_value];go_wp2;go_ret;exact⟨rfl,rfl⟩
theorem lindex_nl s  w :Calls prog 187 #[.string s,.string ⟨#[10]⟩] w fun e w'=>e=.returned (Iq (Lib.indexByte s.data.toList 10))∧w'=w:=by
  have C:Hid (∀w,Calls prog 205 #[.string s,.int .u8 10] w fun e w'=>e=.returned (Iq (Lib.indexByte s.data.toList 10))∧w'=w):=fun w=>indexByte_any s 10 w;have ga:(({data:=#[10]}:ByteArray)[0]'(by show 0<1;omega))=10:=rfl;go_enter func187,ntmps187;go_wp2_with(go_at_call 205;refine(C _).mono ?_;rintro e w5 ⟨rfl,rfl⟩);all_goals
    go_ret;first
      |exact⟨rfl,rfl⟩
      | (refine⟨?_,rfl⟩;have h:([10]==s.toList)=true:=by assumption
         have e:s.data.toList=[10]:=by rw[<-Lib.toList_data];exact(beq_iff_eq.1 h).symm
         rw[e];rfl)
theorem index_nl s  w :Calls prog 166 #[.string s,.string ⟨#[10]⟩] w fun e w'=>e=.returned (Iq (Lib.indexByte s.data.toList 10))∧w'=w:=by have C:=qH<|fun w=>lindex_nl s w;go_enter func166,ntmps166;go_wp2_with(go_at_call 187;refine(C _).mono ?_;rintro e w5 ⟨rfl,rfl⟩);go_ret;exact⟨rfl,rfl⟩
def KeepS(b0 b1 b2:Nat)(W W':World):Prop:=W'.heap[b0]?=W.heap[b0]?∧W'.heap[b1]?=W.heap[b1]?∧W'.heap[b2]?=W.heap[b2]?
theorem KeepS.trans{b0 b1 b2}{A B C}(h:KeepS b0 b1 b2 A B)(k:KeepS b0 b1 b2 B C):KeepS b0 b1 b2 A C:=⟨k.1.trans h.1,k.2.1.trans h.2.1,k.2.2.trans h.2.2⟩
def strV(t:List UInt8):Array Value:=#[.string ⟨t.toArray⟩]
def mlen(b:Nat)(W:World):Nat:=match W.cell? ⟨b,0,none⟩with
 |some (.string s)=>s.size
 |_=>0
theorem ext_left(a b:List UInt8) n (hn:n=a.length):(⟨(a++b).toArray⟩:ByteArray).extract 0 n=⟨a.toArray⟩:=by subst hn;apply ByteArray.ext;simp[ByteArray.data_extract]
theorem ext_right(a b:List UInt8) n k (hn:n=a.length)(hk:k=(a++b).length):(⟨(a++b).toArray⟩:ByteArray).extract n k=⟨b.toArray⟩:=by subst hn;subst hk;apply ByteArray.ext;simp[ByteArray.data_extract]
theorem splitSeq1_in n (hn:3≤n) Bp Bs Bv  t (ht:t.length≤1000000) W0 (hps:Bp≠Bs)(hvs:Bv≠Bs)
 (hp:W0.heap[Bp]?=some (.cells #[.string ⟨#[10]⟩] 9 (0,0))) (hs:W0.heap[Bs]?=some (.cells #[.string ⟨t.toArray⟩] 9 (0,0))) (hv:W0.heap[Bv]?=some (.cells #[Iq 0] 3 (0,0))):
 SeqBox Fence.wide n prog 180 #[Pq Bp,Pq Bs,Pq Bv] strV Bs (KeepS Bp Bs Bv) (fun xs=>xs=paras t) (fun x=>x.length≤t.length) (t.length+1) W0:=by
 intro k0 J W hW hJ hY h0;have hp1:=(hW.block Bp (Array.getElem?_eq_some_iff.1 hp).1).trans hp;have hs1:=(hW.block Bs (Array.getElem?_eq_some_iff.1 hs).1).trans hs;have hv1:=(hW.block Bv (Array.getElem?_eq_some_iff.1 hv).1).trans hv;have HP1:Hid (W.heap[Bp]?=some (.cells #[.string ⟨#[10]⟩] 9 (0,0))∧W.heap[Bs]?=some (.cells #[.string ⟨t.toArray⟩] 9 (0,0))∧W.heap[Bv]?=some (.cells #[Iq 0] 3 (0,0))):=⟨hp1,hs1,hv1⟩;have cp:W.cell? ⟨Bp,0,none⟩=some (.string ⟨#[10]⟩):=by simp[World.cell?,hp1]
 have HJ:=qH<|hJ;have HY:Hid (∀pre x W1,J pre W1->pre.length<t.length+1->x.length≤t.length->YieldAt Fence.wide (n-1) prog k0 (strV x) W1 fun e W'=>e=.returned (.bool true)∧J (pre++[x]) W'∧KeepS Bp Bs Bv W1 W'):=hY;have HTL:Hid ((paras t).length≤t.length+1):=by have h1:=paras_len t;have h2:=List.count_le_length (a:=(10:UInt8)) (l:=t);show _≤_;omega
 have HJ0:=qH<|h0;clear hp hs hv hp1 hs1 hv1 hJ hY h0;refine callsIn_of_wp func180 rfl trivial ?_ rfl;simp only[ntmps180,List.size_toArray,List.length_cons,List.length_nil,Nat.reduceAdd,Nat.reduceSub,Array.replicate_succ,Array.replicate_zero,List.push_toArray,List.append_toArray,List.nil_append,List.cons_append];gi_wp2;gi_loopw[7] (fun _ wr=>∃(x:List UInt8) (pre:List (List UInt8)),Hid (pre++paras x=paras t)∧x.length≤t.length∧Hid (wr.heap[Bp]?=some (.cells #[.string ⟨#[10]⟩] 9 (0,0))∧wr.heap[Bs]?=some (.cells #[.string ⟨x.toArray⟩] 9 (0,0))∧wr.heap[Bv]?=some (.cells #[Iq 0] 3 (0,0)))∧Hid (J pre wr)) (fun _ wr=>mlen Bs wr);case atStart=>exact⟨t,[],rfl,Nat.le_refl _,HP1,HJ0⟩
 case round=>
  obtain⟨x,pre,hpre,hxl,HP,HJs⟩:=hrel;clear cp HP1 HJ0;have hpl:pre.length<t.length+1:=by have h1:=congrArg List.length hpre;rw[List.length_append]at h1;have h2:=paras_len x;have h3:=HTL.out;omega
  have cp:wr.cell? ⟨Bp,0,none⟩=some (.string ⟨#[10]⟩):=by simp[World.cell?,HP.1]
  have cs:wr.cell? ⟨Bs,0,none⟩=some (.string ⟨x.toArray⟩):=by simp[World.cell?,HP.2.1]
  have cv:wr.cell? ⟨Bv,0,none⟩=some (Iq 0):=by simp[World.cell?,HP.2.2]
  have IX:Hid (Calls prog 166 #[.string ⟨x.toArray⟩,.string ⟨#[10]⟩] wr fun e w'=>e=.returned (Iq (Lib.indexByte x 10))∧w'=wr):=index_nl _ _;rcases index_cases x with⟨h1,h2⟩|⟨a,b,h1,h2,h3⟩;·rw[h1]at IX;have HX:=qH<|paras_one x h2;obtain⟨fn,tmps,assign,body,hy,hR⟩:=HY pre x wr HJs hpl hxl;dsimp only[strV]at hy;have HR:=qH<|hR;clear hR h1 h2 HP;gi_wp2_with fail;refine⟨trivial,fun _=>by omega,(callsIn_wide.2 IX).mono ?_⟩;rintro e w5 ⟨rfl,hw5⟩;obtain rfl:=hw5.symm;clear IX;gi_wp2;refine⟨fun _=>by omega,HR.mono ?_⟩;rintro e W3 ⟨rfl,hJ3,hk3⟩;gi_wp2;go_end0;exact⟨⟨_,rfl⟩,_,by rw[<-hpre.out,HX.out],hJ3⟩
  ·rw[h3]at IX;have HX:Hid (paras x=a::paras b):=by show _=_;rw[h1];exact paras_app a b h2
   have hlen:x.length=a.length+1+b.length:=by rw[h1];simp;omega
   have hjs:=HJs.out;obtain⟨fn,tmps,assign,body,hy,hR⟩:=HY pre a wr HJs hpl (by omega);dsimp only[strV]at hy;have HR:=qH<|hR;have hsz:(⟨x.toArray⟩:ByteArray).size=x.length:=by simp[ByteArray.size]
   have e1:(⟨x.toArray⟩:ByteArray).extract 0 a.length=⟨a.toArray⟩:=by rw[h1];exact ext_left a (10::b) _ rfl
   have e2:(⟨x.toArray⟩:ByteArray).extract (a.length+1) (a.length+1+b.length)=⟨b.toArray⟩:=by rw[<-hlen];rw[h1,show a++10::b=(a++[10])++b by simp];exact ext_right (a++[10]) b _ _ (by simp) rfl
   clear hR h1 h2 h3;gi_wp2_with fail;refine⟨trivial,fun _=>by omega,(callsIn_wide.2 IX).mono ?_⟩;rintro e w5 ⟨rfl,hw5⟩;obtain rfl:=hw5.symm;clear IX;gi_wp2;refine⟨fun _=>by omega,HR.mono ?_⟩;clear HR hy;rintro e W3 ⟨rfl,hJ3,hk3⟩;have hp3:=hk3.1.trans HP.1;have hs3:=hk3.2.1.trans HP.2.1;have hv3:=hk3.2.2.trans HP.2.2;have cp3:W3.cell? ⟨Bp,0,none⟩=some (.string ⟨#[10]⟩):=by simp[World.cell?,hp3]
   have cs3:W3.cell? ⟨Bs,0,none⟩=some (.string ⟨x.toArray⟩):=by simp[World.cell?,hs3]
   have fs3:W3.frozen? ⟨Bs,0,none⟩=false:=frozen_of_row _ _ _ _ _ hs3;obtain⟨W4,hW4⟩:=nmd (W3.setCell ⟨Bs,0,none⟩ (.string ⟨b.toArray⟩));have HP4:Hid (W4.heap[Bp]?=some (.cells #[.string ⟨#[10]⟩] 9 (0,0))∧W4.heap[Bs]?=some (.cells #[.string ⟨b.toArray⟩] 9 (0,0))∧W4.heap[Bv]?=some (.cells #[Iq 0] 3 (0,0))):=by rw[<-hW4];exact⟨(Below.heap_setCell _ ⟨Bs,0,none⟩ _ Bp hps).trans hp3,Boxed.set (t:=9) (.string ⟨b.toArray⟩) hs3,(Below.heap_setCell _ ⟨Bs,0,none⟩ _ Bv hvs).trans hv3⟩
   have HJ4:Hid (J (pre++[a]) W4):=by rw[<-hW4];exact HJ _ _ _ _ hJ3 (grownBy_setCell' W3 Bs _) (.inr rfl)
   have HPR:Hid ((pre++[a])++paras b=paras t):=by show _=_;rw[<-hpre.out,HX.out];simp
   have HML:Hid (mlen Bs W4=b.length):=by
    show _=_;have:W4.cell? ⟨Bs,0,none⟩=some (.string ⟨b.toArray⟩):=by simp[World.cell?,HP4.2.1]
    unfold mlen;rw[this];simp[ByteArray.size]
   have HMX:Hid (mlen Bs wr=x.length):=by show _=_;unfold mlen;rw[cs];exact hsz
   clear hp3 hs3 hv3 hJ3 hk3 cp cs cv HP HJs hjs;gi_wp2;go_roundw;case rel=>exact⟨b,pre++[a],HPR,by omega,HP4,HJ4⟩
   case measure=>rw[HML.out,HMX.out];omega
attribute[local go_sem] Oper.semAt_some
theorem splitSeq0_any s  W :
 Calls prog 161 #[.string s,.string ⟨#[10]⟩,Iq 0] W fun e w'=>e=.returned (.func (.func 180) #[] #[Pq (W.heap.size+1),Pq W.heap.size,Pq (W.heap.size+1+1)])∧w'=((W.alloc (.cells #[.string s] 9)).alloc (.cells #[.string ⟨#[10]⟩] 9)).alloc (.cells #[Iq 0] 3):=by go_enter func161,ntmps161;go_wp2;go_ret;exact⟨rfl,rfl⟩
theorem splitSeq_any s  W :
 Calls prog 136 #[.string s,.string ⟨#[10]⟩] W fun e w'=>e=.returned (.func (.func 180) #[] #[Pq (W.heap.size+1),Pq W.heap.size,Pq (W.heap.size+1+1)])∧w'=((W.alloc (.cells #[.string s] 9)).alloc (.cells #[.string ⟨#[10]⟩] 9)).alloc (.cells #[Iq 0] 3):=by have C:=qH<|splitSeq0_any s;go_enter func136,ntmps136;go_wp2_with(go_at_call 161;refine(C _).mono ?_;rintro e w5 ⟨rfl,rfl⟩);go_ret;exact⟨rfl,rfl⟩
theorem keepS_put{b0 b1 b2 B}(h0:b0<B)(h1:b1<B)(h2:b2<B) W  l  x (hl:B≤l):KeepS b0 b1 b2 W (W.putObj l x):=by have hg:=grownBy_putObj' W l x;have key:∀b,b<B->(W.putObj l x).heap[b]?=W.heap[b]?:=fun b hb=>World.putObj_heap_other (by omega);exact⟨key _ h0,key _ h1,key _ h2⟩
theorem colW_bd t :0≤colW t∧colW t≤2*t.length:=by unfold colW;have h:=clus_wide (runes t);have h1:=(wideSum_bd _ h (clus (runes t)).length);rw[List.take_length]at h1;have h2:=clus_length (runes t);have h3:=runes_length t;omega
theorem widest_any s  W (ht:TabAt W)(hs:s.size≤4000):
 Calls prog 76 #[.string s] W fun e W'=>e=.returned (Iq (txtW s.data.toList))∧Below W.heap.size W W':=by
 obtain⟨t,htt⟩:=nmd s.data.toList;have hst:s=⟨t.toArray⟩:=by rw[<-htt]
 have htl:t.length≤4000:=by rw[<-htt,Array.length_toList];exact hs
 rw[htt];subst hst;clear htt hs;refine(callsIn_wide (n:=6)).1 ?_;refine callsIn_of_wp_marks func76 rfl trivial ?_ rfl;simp only[ntmps76,List.size_toArray,List.length_cons,List.length_nil,Nat.reduceAdd,Nat.reduceSub,Array.replicate_succ,Array.replicate_zero,List.push_toArray,List.append_toArray,List.nil_append,List.cons_append];gi_wp2_with fail;refine⟨trivial,(callsIn_wide.2 (splitSeq_any ⟨t.toArray⟩ _)).mono ?_⟩;rintro e w' ⟨rfl,rfl⟩;obtain⟨S,hS⟩:=nmd W.heap.size;have bO:=Boxed.new W 3 (Iq 0);obtain⟨W0,hW0⟩:=nmd ((((W.alloc (.cells #[Iq 0] 3)).alloc (.cells #[.string ⟨t.toArray⟩] 9)).alloc (.cells #[.string ⟨#[10]⟩] 9)).alloc (.cells #[Iq 0] 3));have bO0:Boxed W0 S 3 (Iq 0):=by rw[<-hW0,<-hS];exact((bO.alloc _).alloc _).alloc _
 have bS0:Boxed W0 (S+1) 9 (.string ⟨t.toArray⟩):=by rw[<-hW0,<-hS];have:=Boxed.new (W.alloc (.cells #[Iq 0] 3)) 9 (.string ⟨t.toArray⟩);rw[World.size_alloc]at this;exact(this.alloc _).alloc _
 have bP0:Boxed W0 (S+2) 9 (.string ⟨#[10]⟩):=by rw[<-hW0,<-hS];have:=Boxed.new ((W.alloc (.cells #[Iq 0] 3)).alloc (.cells #[.string ⟨t.toArray⟩] 9)) 9 (.string ⟨#[10]⟩);rw[World.size_alloc,World.size_alloc]at this;exact this.alloc _
 have bV0:Boxed W0 (S+3) 3 (Iq 0):=by rw[<-hW0,<-hS];have:=Boxed.new (((W.alloc (.cells #[Iq 0] 3)).alloc (.cells #[.string ⟨t.toArray⟩] 9)).alloc (.cells #[.string ⟨#[10]⟩] 9)) 3 (Iq 0);rw[World.size_alloc,World.size_alloc,World.size_alloc]at this;exact this
 have hB0:Below W.heap.size W W0:=by rw[<-hW0];exact((((Gr.refl W).alloc _).alloc _).alloc _).alloc _|>.below
 have hsz:W0.heap.size=S+4:=by rw[<-hW0];simp;omega
 rw[World.size_alloc,hW0];gi_wp2;rw[hS]at hB0;refine wpIn_rangeBox rfl (by omega) (gf:=180) (lb:=#[Pq (S+1+1),Pq (S+1),Pq (S+1+1+1)]) rfl trivial (enters_of func180 (by kernel_rfl) rfl)
  (splitSeq1_in 5 (by omega) (S+1+1) (S+1) (S+1+1+1) t (by omega) W0 (by omega) (by omega) bP0 bS0 bV0) (by omega) KeepS.trans (keepS_put (by omega) (by omega) (by omega)) (Below.refl _ _) (fun _=>rfl)
  (fun pre W'=>(Boxed W' S 3 (Iq (mxF (pre.map colW)))∧Below S W W')∧W0.heap.size≤W'.heap.size)
  (OwnFrom.and (OwnFrom.and (Own.from (boxed_own S 3 (fun pre:List (List UInt8)=>Iq (mxF (pre.map colW)))) _) (ownFrom_below (by omega) (by omega))) (fun _ _ _ _ h hg _=>Nat.le_trans h hg.size))
  (fun pre A B row ⟨h,h2⟩ hg hr=>⟨⟨h.1.kept hg (fun e=>by rcases hr with rfl|rfl<;>simp at e),h.2.grown hg (by have:=h.2.size;omega) (fun q hq=>by rcases hr with rfl|rfl<;>(simp at hq;try omega))⟩,Nat.le_trans h2 hg.size⟩)
  ⟨⟨bO0,hB0⟩,Nat.le_refl _⟩
  (fun x a' W'=>a'={tmps:=#[.string ⟨t.toArray⟩,undef,Iq 0,Pq S,.string ⟨x.toArray⟩,.string ⟨t.toArray⟩,.func (.func 180) #[] #[Pq (S+1+1),Pq (S+1),Pq (S+1+1+1)],.string ⟨x.toArray⟩,undef,undef,undef,undef,undef],defers:=[]})
  (fun _ _ _ _ _ _ hs _ _=>hs)
  ?assign ?body ?done;case assign=>rintro k0 pre x W' K hI hK;dsimp only[strV]at hK⊢;gi_wp2;exact hK _ _ (KeepsFrom.refl _ _) ⟨rfl,rfl,rfl⟩ hI rfl
 case body=>
  rintro k0 pre x a' W' ⟨⟨hv,hB⟩,hWl⟩ rfl hlt hxl;have hc:=hv.cell;have hf:=hv.frozen;have hBs:=hB.size;have hxz:(⟨x.toArray⟩:ByteArray).size=x.length:=by simp[ByteArray.size]
  obtain⟨M,hM⟩:=nmd (mxF (pre.map colW));have hcb:=colW_bd x;obtain⟨y,hy⟩:=nmd (colW x);have HSN:Hid (mxF ((pre++[x]).map colW)=max M y):=by show _=_;rw[List.map_append,List.map_cons,List.map_nil,mxF_snoc,hM,hy]
  have CO:Hid (∀u,(u=W'∨u=W'.drew)->Calls prog 137 #[.string ⟨x.toArray⟩] u fun e u'=>e=.returned (Iq y)∧Hid (Below W'.heap.size W' u')∧u'.cell? ⟨S,0,none⟩=some (Iq M)∧u'.frozen? ⟨S,0,none⟩=false):=fun u hu=>by
   have hbu:Below W'.heap.size W' u:=by
    rcases hu with rfl|rfl;·exact Below.refl _ _
    ·exact(Below.refl _ _).drew
   have htu:=(ht.below (w':=W') (by rw[hS];exact hB)).below hbu;refine(columns_any ⟨x.toArray⟩ u htu (by rw[hxz];omega)).mono ?_;rintro e u' ⟨rfl,q⟩;have hbb:=hbu.trans (q.mono hbu.size);refine⟨by rw[<-hy];rfl,hbb,?_,?_⟩;·rw[<-hM];exact(hbb.cell (p:=⟨S,0,none⟩) hv.lt).trans hv.cell
   ·exact(World.frozen?_of_block (hbb.block S hv.lt)).trans hv.frozen
  have HFIN:Hid (∀u,Below W'.heap.size W' u->boxPost W0.heap.size (KeepS (S+1+1) (S+1) (S+1+1+1)) (fun pre W'=>(Boxed W' S 3 (Iq (mxF (pre.map colW)))∧Below S W W')∧W0.heap.size≤W'.heap.size) (pre++[x]) W' .normal {tmps:=#[],defers:=[]} (u.setCell ⟨S,0,none⟩ (Iq (max M y)))):=fun u hu=>by
   have hu1:Boxed u S 3 (Iq (mxF (pre.map colW))):=(hu.block S hv.lt).trans hv;have key:∀b,b≠S->b<W'.heap.size->(u.setCell ⟨S,0,none⟩ (Iq (max M y))).heap[b]?=W'.heap[b]?:=fun b hb hl=>(Below.heap_setCell u ⟨S,0,none⟩ _ b hb).trans (hu.block b hl);refine⟨⟨Nat.le_trans hu.size (by simp),fun k o hk ho _=>?_⟩,⟨key _ (by omega) (by omega),key _ (by omega) (by omega),key _ (by omega) (by omega)⟩,⟨by rw[HSN.out];exact hu1.set _,?_⟩,Nat.le_trans hWl (Nat.le_trans hu.size (by simp))⟩;·exact(key k (by omega) (Array.getElem?_eq_some_iff.1 ho).1).trans ho
   ·exact(hB.trans (hu.mono (by omega))).setCell (p:=⟨S,0,none⟩) (Nat.le_refl _) _
  rw[hM]at hc;rw[hy]at hcb;have hmix:prog.follows .mixedOrders=true:=by kernel_rfl
  clear hM hy hv hB;gi_wp2_with fail;gi_region_with_o(refine⟨trivial,(CallsIn.inRound k0 (callsIn_wide.2 (CO _ (by first|exact .inl rfl|exact .inr rfl)))).mono ?_⟩;rintro e wq ⟨rfl,bq,cq,fq⟩);all_goals(gi_wp2_with fail)
  all_goals exact HFIN wq bq
 case done=>rintro D ys W' hD rfl ⟨⟨hv,hB⟩,hWl⟩ hK;have hc:=hv.cell;gi_wp2;refine⟨by simp,.inl ⟨_,_,rfl,run_takeDeferred hK,?_⟩⟩;exact⟨_,results_tmp rfl _ _ _,rfl,by rw[hS];exact hB.trans (belowK_b (w:=W) (by omega) W' D _ _ (by omega) hK rfl rfl)⟩
