import Derived.Test.YtiaimhjebnobnaaGreatDoorQ11
import Derived.Test.YtiaimhjebnobnaaGreatDoorQ32
set_option linter.all false
set_option maxRecDepth 100000
set_option maxHeartbeats 16000000
namespace Go.Proofs.YtiaimhjebnobnaaGreatDoor
open Go.RowKit Go.Sort Go.Proofs.Tryz
def MC(K:Nat)(f g bd cx cy ca cb:Int):Value:=.agg #[Pq K,Iq f,Iq g,Iq bd,Iq cx,Iq cy,Iq ca,Iq cb]
section
variable(W H:Nat) (f g bd cx cy ca cb:Int)
def wrF(y:Int):List (List UInt8×Int)->Int->(Nat->Nat->Ce)->Nat->Nat->Ce
 |[],_,c=>c
 |q::r,x,c=>wrF y r (x+q.2) (rQ W H c x y ⟨q.1.toArray⟩ q.2 f g bd cx cy ca cb)
def wrL(x y:Int)(s:List UInt8)(c:Nat->Nat->Ce):Nat->Nat->Ce:=if y<cy\/cy+cb<=y then c else wrF W H f g bd cx cy ca cb y (a_ (aD s)) x c
theorem EY  y  :∀  l   q   x   c,wrF W H f g bd cx cy ca cb y (l++[q]) x c=rQ W H (wrF W H f g bd cx cy ca cb y l x c) (x+ap l) y ⟨q.1.toArray⟩ q.2 f g bd cx cy ca cb
 |[],q,x,c=>by show rQ W H c x y _ _ _ _ _ _ _ _ _=rQ W H c (x+0) y _ _ _ _ _ _ _ _ _;grind
 |p::l,q,x,c=>by show wrF W H f g bd cx cy ca cb y (l++[q]) (x+p.2) _=_;rw[EY y l q];grind[rQ,wrF,ap]
theorem wrF_next  y  (l:List (List UInt8×Int))  k  (hk:k<l.length)  x   c  :wrF W H f g bd cx cy ca cb y (l.take (k+1)) x c=rQ W H (wrF W H f g bd cx cy ca cb y (l.take k) x c) (x+ap (l.take k)) y ⟨l[k].1.toArray⟩ l[k].2 f g bd cx cy ca cb:=by rw[lk hk,EY]
theorem EX{P:(Nat->Nat->Ce)->Prop}  y  :∀  l   x   c,(∀q∈l,∀x c,P c->P (rQ W H c x y ⟨q.1.toArray⟩ q.2 f g bd cx cy ca cb))->P c->P (wrF W H f g bd cx cy ca cb y l x c)
 |[],_,_,_,h=>h
 |q::r,x,c,hs,h=>EX y r _ _ (fun p hp=>hs p (E9 _ hp)) (hs q E8 x c h)
end
theorem PAll.wrF{W H:Nat}(hW:1<=W/\W<=400)(hH:1<=H/\H<=400)(f g bd cx cy ca cb y:Int)(l:List (List UInt8×Int))(x:Int){c:Nat->Nat->Ce}(h:PAll W H c):PAll W H (wrF W H f g bd cx cy ca cb y l x c):=
 EX W H f g bd cx cy ca cb (P:=PAll W H) y l x c (fun q _ x c hc=>hc.putX hW hH _ _ _ _ _ _ _ _ _ _ _) h
theorem PAll.wrL{W H:Nat}(hW:1<=W/\W<=400)(hH:1<=H/\H<=400)(f g bd cx cy ca cb x y:Int)(s:List UInt8){c:Nat->Nat->Ce}(h:PAll W H c):PAll W H (wrL W H f g bd cx cy ca cb x y s c):=by unfold Go.Proofs.YtiaimhjebnobnaaGreatDoor.wrL;grind[PAll.wrF]
section
variable{K M cap W H:Nat} {c:Nat->Nat->Ce}
theorem zc(w:World)(h:CS 100 42 w K M cap W H c)(hW:1<=W/\W<=400)(hH:1<=H/\H<=400)(hp:PAll W H c)(ht:cG w)(x y f g bd cx cy ca cb:Int)(s:ByteArray)(hs:s.size<=1099511627776)(hx:-1000000000000<=x/\x<=1000000000000)(Y0:-1000000000000<=cy/\cy<=1000000000000)(Ul:-1000000000000<=cb/\cb<=1000000000000):
 Cw 74 #[MC K f g bd cx cy ca cb,Iq x,Iq y,.string s] w fun e w'=>e=Rw (.tuple #[])/\Cv 42 w' M W H (wrL W H f g bd cx cy ca cb x y s.data.toList c)/\cN M w w':=by
 have lq:s.data.toList.length=s.size:=by rw[fV];rfl
 have hR:=bK s.data.toList;have hC:=cE (aD s.data.toList);rw[lq]at hR;have hbd:=dO (aD s.data.toList);have yw:=h.cv.lt;obtain⟨A,hA⟩:=ag w.heap.size;obtain⟨W1,cC⟩:=ag (w.alloc (.cells #[Pq K,Iq f,Iq g,Iq bd,Iq cx,Iq cy,Iq ca,Iq cb] 60));have HB1:Hid (Bt w W1):=by rw[<-cC];exact((Gr.refl w).alloc _).below
 have b9:W1.heap[A]?=some (.cells #[Pq K,Iq f,Iq g,Iq bd,Iq cx,Iq cy,Iq ca,Iq cb] 60 (0,0)):=by rw[<-cC,<-hA];exact heap_alloc_new _ _
 have cZ:Hid (∀u:World,u.heap[A]?=W1.heap[A]?->u.cell? (az A 0)=some (Pq K)/\u.cell? (az A 1)=some (Iq f)/\u.cell? (az A 2)=some (Iq g)/\u.cell? (az A 3)=some (Iq bd)/\u.cell? (az A 4)=some (Iq cx)/\u.cell? (az A 5)=some (Iq cy)/\u.cell? (az A 6)=some (Iq ca)/\u.cell? (az A 7)=some (Iq cb)):=fun u hu=>by refine⟨?_,?_,?_,?_,?_,?_,?_,?_⟩<;>(rw[Lib.cell_of_heap (hu.trans b9)];rfl)
 have M9:=qH<|(aM.1 b9).1;obtain⟨z0,z1,z2,z3,z4,z5,z6,z7⟩:=cZ W1 rfl;have HCS:=qH h;have HP:=qH hp;have GC:Hid (Cw 151 #[.string s] W1 fun e w'=>∃v,e=Rw v/\Hid (oM w' v (a_ (aD s.data.toList)))/\Hid (∀q,v.ownBlock=some q->W1.heap.size<=q)/\Bt W1 w'):=by refine(iO s W1 (ht.below HB1) hs).mono ?_;rintro e w1 ⟨v,rfl,o,b⟩;exact⟨v,rfl,t_ o,fun q hq=>(o.lt q hq).1,b⟩
 unfold wrL;obtain⟨l,hl⟩:=ag (a_ (aD s.data.toList));rw[hl]at GC hC hbd⊢;have iM:=qH hbd;have hwc:IntKind.i64.wrap (cy+cb)=cy+cb:=IntWalk.i64_in _ (by omega);clear hl lq ht hbd h hp b9;unfold MC;go_enter func74,ntmps74;by_cases h1:y<cy;·rw[if_pos (.inl h1)];go_wp2;refine bodyPost_ret (results_none rfl _ _ _) rfl ?_;exact⟨rfl,HCS.cv.ch (cN.below HB1) (Nat.ne_of_lt yw),cN.below HB1⟩
 by_cases h2:cy+cb<=y;·rw[if_pos (.inr h2)];go_wp2;refine bodyPost_ret (results_none rfl _ _ _) rfl ?_;exact⟨rfl,HCS.cv.ch (cN.below HB1) (Nat.ne_of_lt yw),cN.below HB1⟩
 rw[if_neg (by omega)];go_wp2_with fail;refine GC.mono ?_;rintro e w2 ⟨v,rfl,⟨a,xz,rfl,hh⟩,HO,b2⟩;have HB2:=qH<|HB1.trans (b2.mono HB1.size);have zaD:Hid (∀u:World,u.heap[A]?=w2.heap[A]?->u.heap[A]?=W1.heap[A]?):=fun u hu=>hu.trans (b2.block A M9);have XN:=qH<|zz008 M9 b2.size;have Sg:Hid (M<A):=by rw[<-hA];exact yw
 have J3:=qH<|zz106 Sg M9;have HCV:=qH<|HCS.cv.keep (HB2.block M yw);have HK:=qH<|HB2.block K HCS.klt;clear GC b2 z0 z1 z2 z3 z4 z5 z6 z7 cC hA;go_wp2;go_loopw[1,29] (fun xv iv wr=>∃k:Nat,k<=l.length/\iv=Iq k/\xv=Iq (x+ap (l.take k))/\Hid (Cv 42 wr M W H (wrF W H f g bd cx cy ca cb y (l.take k) x c))/\Hid (cN M w2 wr)) (fun _ i _=>l.length-(intOf i).toNat);case atStart=>exact⟨0,aZ _,rfl,by grind[ap],HCV,cN.refl _ _⟩
 case round=>
  obtain⟨k,hk,rfl,rfl,HV,HC⟩:=hrel;have hwb:=cJ l iM k;by_cases hlt:k<l.length
  ·have aN:(k:Int)<(l.length:Int):=by omega
   have bZ:l≠[]:=fun e=>by grind
   obtain⟨b,off,rfl,hb,hc⟩:=hh.resolve_left bZ;have hbM:b≠M:=by have:=HO b rfl;have:=J3.out;omega
   have hAM:A≠M:=by have:=Sg.out;omega
   obtain⟨y0,y1,y2,y3,y4,y5,y6,y7⟩:=cZ wr (zaD wr (HC.block A XN hAM));obtain⟨T,wd,OO⟩:∃T wd,l[k]=(T,wd):=⟨_,_,rfl⟩;have MS:=iM l[k] (lX hlt);have c0:wr.cell? (az b (off+k*2))=some (.string ⟨T.toArray⟩):=by have:=(hc k hlt).1;rw[OO]at this;exact(bU (a:=(az b (off+k*2))) (HC.block b hb hbM)).trans this
   have c1:wr.cell? (az b (off+k*2+1))=some (Iq wd):=by have:=(hc k hlt).2;rw[OO]at this;exact(bU (a:=(az b (off+k*2+1))) (HC.block b hb hbM)).trans this
   have HS:Hid (ap (l.take (k+1))=ap (l.take k)+wd):=by show _=_;rw[dY l k hlt,OO]
   have HN:=qH<|wrF_next W H f g bd cx cy ca cb y l k hlt x c;rw[OO]at MS HN;simp only at MS HN;obtain⟨X,hX⟩:=ag (ap (l.take k));rw[hX]at HS hwb HN;rw[hX];obtain⟨W3,kT⟩:=ag (wr.alloc (.cells #[.string ⟨T.toArray⟩,Iq wd] 227));have Fj:Hid (Gr wr W3):=by rw[<-kT];exact(Gr.refl wr).alloc _
   have hR3:pJ 227 W3 wr.heap.size ⟨T.toArray⟩ wd:=by rw[<-kT];exact pJ.new _ _ _ _
   have HR3:=qH hR3;have r0:=hR3.c0;have r1:=hR3.c1;obtain⟨x0,x1,x2,x3,x4,x5,x6,x7⟩:=cZ W3 (((Fj.block (zz008 XN HC.size))).trans (zaD wr (HC.block A XN hAM)));have HPA:=qH<|PAll.wrF hW hH f g bd cx cy ca cb y (l.take k) x HP;have PT:Hid (Cw 152 #[Pq K,Iq (x+X),Iq y,.agg #[.string ⟨T.toArray⟩,Iq wd],sv f g bd,rv cx cy ca cb] W3 fun e w'=>e=Rw (.tuple #[])/\Hid (Cv 42 w' M W H (wrF W H f g bd cx cy ca cb y (l.take (k+1)) x c))/\Hid (cN M W3 w')):=by have hk:=(HC.block K (zz008 HCS.klt HB2.size) HCS.ne).trans HK;have pB:CS 100 42 wr K M cap W H (wrF W H f g bd cx cy ca cb y (l.take k) x c):=⟨hk.trans HCS.kb,HV,HCS.ne,HCS.hc⟩;rw[HN.out];exact Vo W3 (pB.gr Fj) hW hH HPA (x+X) y ⟨T.toArray⟩ wd f g bd cx cy ca cb
   have Ni:=qH<|HV.lt;unfold sv rv at PT;have hwx:IntKind.i64.wrap (x+X+wd)=x+X+wd:=IntWalk.i64_in _ (by omega);have HE:Hid (x+ap (l.take (k+1))=x+X+wd):=by show _=_;rw[HS.out];omega
   clear hc OO hX bZ hh hR3 HN HV HPA;go_wp2_with fail;clear kT;refine PT.mono ?_;rintro e w4 ⟨rfl,HV4,HC4⟩;have s1:=(HR3.ch HC4 (by have:=Ni.out;omega)).c1;clear PT;go_wp2;go_roundw;case rel=>exact⟨k+1,hlt,by go_num,by rw[HE.out],HV4,HC.trans ((cN.gr Fj).trans HC4)⟩
   case measure=>simp[intOf];omega
  ·have aN:¬(k:Int)<(l.length:Int):=by omega
   obtain rfl:k=l.length:=by omega
   go_wp2;go_end0;refine⟨rfl,?_,(cN.below HB2).trans HC⟩;have:=HV.out;grind
end
