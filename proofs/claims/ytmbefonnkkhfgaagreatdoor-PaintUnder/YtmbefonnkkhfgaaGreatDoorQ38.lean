import Derived.Test.YtmbefonnkkhfgaaGreatDoorQ19
import Derived.Test.YtmbefonnkkhfgaaGreatDoorQ35
import Derived.Test.YtmbefonnkkhfgaaGreatDoorQ24
set_option linter.unusedVariables false
set_option maxRecDepth 100000
set_option maxHeartbeats 16000000
namespace Go.Proofs.YtmbefonnkkhfgaaGreatDoor
section
open Go.RowKit Go.Sort Go.Proofs.Tryz
def brv(K:Nat)(f g bd cx cy ca cb:Int):Value:=.agg #[Pq K,Iq f,Iq g,Iq bd,Iq cx,Iq cy,Iq ca,Iq cb]
section
variable(W H:Nat) (f g bd cx cy ca cb:Int)
def wrF(y:Int):List (List UInt8×Int)->Int->(Nat->Nat->Ce)->Nat->Nat->Ce
 |[],_,c=>c
 |q::r,x,c=>wrF y r (x+q.2) (putC W H c x y ⟨q.1.toArray⟩ q.2 f g bd cx cy ca cb)
def wrL(x y:Int)(s:List UInt8)(c:Nat->Nat->Ce):Nat->Nat->Ce:=if y<cy∨cy+cb≤y then c else wrF W H f g bd cx cy ca cb y (clus (runes s)) x c
theorem wrF_snoc(y:Int):∀(l:List (List UInt8×Int)) (q:List UInt8×Int) (x:Int) (c:Nat->Nat->Ce),wrF W H f g bd cx cy ca cb y (l++[q]) x c=putC W H (wrF W H f g bd cx cy ca cb y l x c) (x+wideSum l) y ⟨q.1.toArray⟩ q.2 f g bd cx cy ca cb
 |[],q,x,c=>by show putC W H c x y _ _ _ _ _ _ _ _ _=putC W H c (x+0) y _ _ _ _ _ _ _ _ _;rw[Int.add_zero]
 |p::l,q,x,c=>by show wrF W H f g bd cx cy ca cb y (l++[q]) (x+p.2) _=_;rw[wrF_snoc y l q];show putC W H (wrF W H f g bd cx cy ca cb y l (x+p.2) _) (x+p.2+wideSum l) y _ _ _ _ _ _ _ _ _=putC W H (wrF W H f g bd cx cy ca cb y l (x+p.2) _) (x+wideSum (p::l)) y _ _ _ _ _ _ _ _ _;rw[show wideSum (p::l)=p.2+wideSum l by simp[wideSum],Int.add_assoc]
theorem wrF_next(y:Int)(l:List (List UInt8×Int))(k:Nat)(hk:k<l.length)(x:Int)(c:Nat->Nat->Ce):wrF W H f g bd cx cy ca cb y (l.take (k+1)) x c=putC W H (wrF W H f g bd cx cy ca cb y (l.take k) x c) (x+wideSum (l.take k)) y ⟨l[k].1.toArray⟩ l[k].2 f g bd cx cy ca cb:=by rw[List.take_succ_eq_append_getElem hk,wrF_snoc]
theorem wrF_keep{P:(Nat->Nat->Ce)->Prop}(y:Int):∀(l:List (List UInt8×Int)) (x:Int) (c:Nat->Nat->Ce),(∀q∈l,∀x c,P c->P (putC W H c x y ⟨q.1.toArray⟩ q.2 f g bd cx cy ca cb))->P c->P (wrF W H f g bd cx cy ca cb y l x c)
 |[],_,_,_,h=>h
 |q::r,x,c,hs,h=>wrF_keep y r _ _ (fun p hp=>hs p (List.mem_cons_of_mem _ hp)) (hs q List.mem_cons_self x c h)
end
theorem PAll.wrF{W H:Nat}(hW:1≤W∧W≤400)(hH:1≤H∧H≤400)(f g bd cx cy ca cb y:Int)(l:List (List UInt8×Int))(x:Int){c:Nat->Nat->Ce}(h:PAll W H c):PAll W H (wrF W H f g bd cx cy ca cb y l x c):=
 wrF_keep W H f g bd cx cy ca cb (P:=PAll W H) y l x c (fun q _ x c hc=>hc.putX hW hH _ _ _ _ _ _ _ _ _ _ _) h
theorem PAll.wrL{W H:Nat}(hW:1≤W∧W≤400)(hH:1≤H∧H≤400)(f g bd cx cy ca cb x y:Int)(s:List UInt8){c:Nat->Nat->Ce}(h:PAll W H c):PAll W H (wrL W H f g bd cx cy ca cb x y s c):=by
 unfold Go.Proofs.YtmbefonnkkhfgaaGreatDoor.wrL;split;·exact h
 ·exact PAll.wrF hW hH _ _ _ _ _ _ _ _ _ _ h
section
variable{K M cap W H:Nat} {c:Nat->Nat->Ce}
theorem write_any(w:World)(h:CS 89 34 w K M cap W H c)(hW:1≤W∧W≤400)(hH:1≤H∧H≤400)(hp:PAll W H c)(ht:TabAt w)(x y f g bd cx cy ca cb:Int)(s:ByteArray)(hs:s.size≤1099511627776)(hx:-1000000000000≤x∧x≤1000000000000)(hcy:-1000000000000≤cy∧cy≤1000000000000)(hcb:-1000000000000≤cb∧cb≤1000000000000):
 Calls prog 67 #[brv K f g bd cx cy ca cb,Iq x,Iq y,.string s] w fun e w'=>e=.returned (.tuple #[])∧Cv 34 w' M W H (wrL W H f g bd cx cy ca cb x y s.data.toList c)∧Chm M w w':=by
 have hsl:s.data.toList.length=s.size:=by rw[Array.length_toList];rfl
 have hR:=runes_length s.data.toList;have hC:=clus_length (runes s.data.toList);rw[hsl]at hR;have hbd:=clus_wide (runes s.data.toList);have hMl:=h.cv.lt;obtain⟨A,hA⟩:=nmd w.heap.size;obtain⟨W1,hW1⟩:=nmd (w.alloc (.cells #[Pq K,Iq f,Iq g,Iq bd,Iq cx,Iq cy,Iq ca,Iq cb] 58));have HB1:Hid (Below w.heap.size w W1):=by rw[<-hW1];exact((Gr.refl w).alloc _).below
 have hat:W1.heap[A]?=some (.cells #[Pq K,Iq f,Iq g,Iq bd,Iq cx,Iq cy,Iq ca,Iq cb] 58 (0,0)):=by rw[<-hW1,<-hA];exact heap_alloc_new _ _
 have HAT:Hid (∀u:World,u.heap[A]?=W1.heap[A]?->u.cell? ⟨A,0,none⟩=some (Pq K)∧u.cell? ⟨A,1,none⟩=some (Iq f)∧u.cell? ⟨A,2,none⟩=some (Iq g)∧u.cell? ⟨A,3,none⟩=some (Iq bd)∧u.cell? ⟨A,4,none⟩=some (Iq cx)∧u.cell? ⟨A,5,none⟩=some (Iq cy)∧u.cell? ⟨A,6,none⟩=some (Iq ca)∧u.cell? ⟨A,7,none⟩=some (Iq cb)):=fun u hu=>by refine⟨?_,?_,?_,?_,?_,?_,?_,?_⟩<;>(rw[Lib.cell_of_heap (hu.trans hat)];rfl)
 have HAl:Hid (A<W1.heap.size):=(Array.getElem?_eq_some_iff.1 hat).1;obtain⟨z0,z1,z2,z3,z4,z5,z6,z7⟩:=HAT W1 rfl;have HCS:=qH h;have HP:=qH hp;have GC:Hid (Calls prog 9 #[.string s] W1 fun e w'=>∃v,e=.returned v∧Hid (Cls w' v (clus (runes s.data.toList)))∧Hid (∀q,v.ownBlock=some q->W1.heap.size≤q)∧Below W1.heap.size W1 w'):=by refine(gClusters_any s W1 (ht.below HB1) hs).mono ?_;rintro e w1 ⟨v,rfl,o,b⟩;exact⟨v,rfl,cls_own o,fun q hq=>(o.lt q hq).1,b⟩
 unfold wrL;obtain⟨l,hl⟩:=nmd (clus (runes s.data.toList));rw[hl]at GC hC hbd⊢;have HBD:=qH hbd;have hwc:IntKind.i64.wrap (cy+cb)=cy+cb:=IntWalk.i64_in _ (by omega);clear hl hsl ht hbd h hp hat;unfold brv;go_enter func67,ntmps67;by_cases h1:y<cy;·rw[if_pos (.inl h1)];go_wp2;refine bodyPost_ret (results_none rfl _ _ _) rfl ?_;exact⟨rfl,HCS.cv.ch (Chm.below HB1) (Nat.ne_of_lt hMl),Chm.below HB1⟩
 by_cases h2:cy+cb≤y;·rw[if_pos (.inr h2)];go_wp2;refine bodyPost_ret (results_none rfl _ _ _) rfl ?_;exact⟨rfl,HCS.cv.ch (Chm.below HB1) (Nat.ne_of_lt hMl),Chm.below HB1⟩
 rw[if_neg (by omega)];go_wp2_with fail;refine GC.mono ?_;rintro e w2 ⟨v,rfl,⟨a,cap2,rfl,hh⟩,HO,b2⟩;have HB2:Hid (Below w.heap.size w w2):=HB1.trans (b2.mono HB1.size);have HAT2:Hid (∀u:World,u.heap[A]?=w2.heap[A]?->u.heap[A]?=W1.heap[A]?):=fun u hu=>hu.trans (b2.block A HAl);have HAl2:Hid (A<w2.heap.size):=Nat.lt_of_lt_of_le HAl b2.size;have HMA:Hid (M<A):=by rw[<-hA];exact hMl
 have HW1:Hid (M<W1.heap.size):=Nat.lt_trans HMA HAl;have HCV:Hid (Cv 34 w2 M W H c):=HCS.cv.keep (HB2.block M hMl);have HK:Hid (w2.heap[K]?=w.heap[K]?):=HB2.block K HCS.klt;clear GC b2 z0 z1 z2 z3 z4 z5 z6 z7 hW1 hA;go_wp2;go_loopw[1,29] (fun xv iv wr=>∃k:Nat,k≤l.length∧iv=Iq k∧xv=Iq (x+wideSum (l.take k))∧Hid (Cv 34 wr M W H (wrF W H f g bd cx cy ca cb y (l.take k) x c))∧Hid (Chm M w2 wr)) (fun _ i _=>l.length-(intOf i).toNat);case atStart=>exact⟨0,Nat.zero_le _,rfl,by rw[show x+wideSum (l.take 0)=x from Int.add_zero x],HCV,Chm.refl _ _⟩
 case round=>
  obtain⟨k,hk,rfl,rfl,HV,HC⟩:=hrel;have hwb:=wideSum_bd l HBD k;by_cases hlt:k<l.length
  ·have hlt':(k:Int)<(l.length:Int):=by omega
   have hne:l≠[]:=fun e=>by rw[e]at hlt;simp at hlt
   obtain⟨b,off,rfl,hb,hc⟩:=hh.resolve_left hne;have hbM:b≠M:=by have:=HO b rfl;have:=HW1.out;omega
   have hAM:A≠M:=by have:=HMA.out;omega
   obtain⟨y0,y1,y2,y3,y4,y5,y6,y7⟩:=HAT wr (HAT2 wr (HC.block A HAl2 hAM));obtain⟨T,wd,hTW⟩:∃T wd,l[k]=(T,wd):=⟨_,_,rfl⟩;have hwd:=HBD l[k] (List.getElem_mem hlt);have c0:wr.cell? ⟨b,off+k*2,none⟩=some (.string ⟨T.toArray⟩):=by have:=(hc k hlt).1;rw[hTW]at this;exact(World.cell?_of_block (a:=⟨b,off+k*2,none⟩) (HC.block b hb hbM)).trans this
   have c1:wr.cell? ⟨b,off+k*2+1,none⟩=some (Iq wd):=by have:=(hc k hlt).2;rw[hTW]at this;exact(World.cell?_of_block (a:=⟨b,off+k*2+1,none⟩) (HC.block b hb hbM)).trans this
   have HS:Hid (wideSum (l.take (k+1))=wideSum (l.take k)+wd):=by show _=_;rw[wideSum_snoc l k hlt,hTW]
   have HN:=qH<|wrF_next W H f g bd cx cy ca cb y l k hlt x c;rw[hTW]at hwd HN;simp only at hwd HN;obtain⟨X,hX⟩:=nmd (wideSum (l.take k));rw[hX]at HS hwb HN;rw[hX];obtain⟨W3,hW3⟩:=nmd (wr.alloc (.cells #[.string ⟨T.toArray⟩,Iq wd] 38));have HG3:Hid (Gr wr W3):=by rw[<-hW3];exact(Gr.refl wr).alloc _
   have hR3:RCl 38 W3 wr.heap.size ⟨T.toArray⟩ wd:=by rw[<-hW3];exact RCl.new _ _ _ _
   have HR3:=qH hR3;have r0:=hR3.c0;have r1:=hR3.c1;obtain⟨x0,x1,x2,x3,x4,x5,x6,x7⟩:=HAT W3 (((HG3.block (Nat.lt_of_lt_of_le HAl2 HC.size))).trans (HAT2 wr (HC.block A HAl2 hAM)));have HPA:=qH<|PAll.wrF hW hH f g bd cx cy ca cb y (l.take k) x HP;have PT:Hid (Calls prog 127 #[Pq K,Iq (x+X),Iq y,.agg #[.string ⟨T.toArray⟩,Iq wd],sv f g bd,rv cx cy ca cb] W3 fun e w'=>e=.returned (.tuple #[])∧Hid (Cv 34 w' M W H (wrF W H f g bd cx cy ca cb y (l.take (k+1)) x c))∧Hid (Chm M W3 w')):=by have hk:wr.heap[K]?=w.heap[K]?:=(HC.block K (Nat.lt_of_lt_of_le HCS.klt HB2.size) HCS.ne).trans HK;have hcs:CS 89 34 wr K M cap W H (wrF W H f g bd cx cy ca cb y (l.take k) x c):=⟨hk.trans HCS.kb,HV,HCS.ne,HCS.hc⟩;rw[HN.out];exact put_any W3 (hcs.gr HG3) hW hH HPA (x+X) y ⟨T.toArray⟩ wd f g bd cx cy ca cb
   have HM3:Hid (M<wr.heap.size):=HV.lt;unfold sv rv at PT;have hwx:IntKind.i64.wrap (x+X+wd)=x+X+wd:=IntWalk.i64_in _ (by omega);have HE:Hid (x+wideSum (l.take (k+1))=x+X+wd):=by show _=_;rw[HS.out];omega
   clear hc hTW hX hne hh hR3 HN HV HPA;go_wp2_with fail;clear hW3;refine PT.mono ?_;rintro e w4 ⟨rfl,HV4,HC4⟩;have s1:w4.cell? ⟨wr.heap.size,1,none⟩=some (Iq wd):=(HR3.ch HC4 (by have:=HM3.out;omega)).c1;clear PT;go_wp2;go_roundw;case rel=>exact⟨k+1,hlt,by go_num,by rw[HE.out],HV4,HC.trans ((Chm.gr HG3).trans HC4)⟩
   case measure=>simp[intOf];omega
  ·have hlt':¬(k:Int)<(l.length:Int):=by omega
   obtain rfl:k=l.length:=by omega
   go_wp2;go_end0;refine⟨rfl,?_,(Chm.below HB2).trans HC⟩;have:=HV.out;rw[List.take_length]at this;exact this
end
end
end Go.Proofs.YtmbefonnkkhfgaaGreatDoor
