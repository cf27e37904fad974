import Derived.Test.YtaanagpadfcmlaaGreatDoorQ11
import Derived.Test.YtaanagpadfcmlaaGreatDoorQ33
set_option linter.all false
set_option maxRecDepth 100000
set_option maxHeartbeats 16000000
namespace Go.Proofs.YtaanagpadfcmlaaGreatDoor
open Go.RowKit Go.Sort Go.Proofs.Tryz
def Gp(K:Nat)(f g bd cx cy ca cb:Int):Value:=.agg #[Pq K,Iq f,Iq g,Iq bd,Iq cx,Iq cy,Iq ca,Iq cb]
section
variable(W H:Nat) (f g bd cx cy ca cb:Int)
def wrF(y:Int):List (List UInt8×Int)->Int->(Nat->Nat->Ce)->Nat->Nat->Ce
 |[],_,c=>c
 |q::r,x,c=>wrF y r (x+q.2) (eT W H c x y ⟨q.1.toArray⟩ q.2 f g bd cx cy ca cb)
def wrL(x y:Int)(s:List UInt8)(c:Nat->Nat->Ce):Nat->Nat->Ce:=if y<cy\/cy+cb<=y then c else wrF W H f g bd cx cy ca cb y (aG (ak s)) x c
theorem z' y:∀  l   q   x   c,wrF W H f g bd cx cy ca cb y (l++[q]) x c=eT W H (wrF W H f g bd cx cy ca cb y l x c) (x+ai l) y ⟨q.1.toArray⟩ q.2 f g bd cx cy ca cb
 |[],q,x,c=>by show eT W H c x y _ _ _ _ _ _ _ _ _=eT W H c (x+0) y _ _ _ _ _ _ _ _ _;grind
 |p::l,q,x,c=>by show wrF W H f g bd cx cy ca cb y (l++[q]) (x+p.2) _=_;rw[z' y l q];grind[eT,wrF,ai]
theorem wrF_next y(l:List (List UInt8×Int))k(a:k<l.length)x c:wrF W H f g bd cx cy ca cb y (l.take (k+1)) x c=eT W H (wrF W H f g bd cx cy ca cb y (l.take k) x c) (x+ai (l.take k)) y ⟨l[k].1.toArray⟩ l[k].2 f g bd cx cy ca cb:=by rw[gG a,z']
theorem sA{P:(Nat->Nat->Ce)->Prop}y:∀  l   x   c,(∀q∈l,∀x c,P c->P (eT W H c x y ⟨q.1.toArray⟩ q.2 f g bd cx cy ca cb))->P c->P (wrF W H f g bd cx cy ca cb y l x c)
 |[],_,_,_,h=>h
 |q::r,x,c,a,h=>sA y r _ _ (λp hp=>a p (Ah _ hp)) (a q Ag x c h)
end
theorem PAll.wrF{W H:Nat}(b:1<=W/\W<=400)(a:1<=H/\H<=400)(f g bd cx cy ca cb y:Int)(l:List (List UInt8×Int))(x:Int){c:Nat->Nat->Ce}(h:PAll W H c):PAll W H (wrF W H f g bd cx cy ca cb y l x c):=
 sA W H f g bd cx cy ca cb (P:=PAll W H) y l x c (λq _ x c d=>d.putX b a _ _ _ _ _ _ _ _ _ _ _) h
theorem PAll.wrL{W H:Nat}(b:1<=W/\W<=400)(a:1<=H/\H<=400)(f g bd cx cy ca cb x y:Int)(s:List UInt8){c:Nat->Nat->Ce}(h:PAll W H c):PAll W H (wrL W H f g bd cx cy ca cb x y s c):=by unfold Go.Proofs.YtaanagpadfcmlaaGreatDoor.wrL;grind[PAll.wrF]
section
variable{K M cap W H:Nat} {c:Nat->Nat->Ce}
theorem uq(w:World)(h:CS 91 73 w K M cap W H c)(hW:1<=W/\W<=400)(hH:1<=H/\H<=400)(hp:PAll W H c)(ht:bN w)(x y f g bd cx cy ca cb:Int)(s:ByteArray)(hs:s.size<=1099511627776)(hx:-1000000000000<=x/\x<=1000000000000)(zm:-1000000000000<=cy/\cy<=1000000000000)(zl:-1000000000000<=cb/\cb<=1000000000000):
 Cw 64 #[Gp K f g bd cx cy ca cb,Iq x,Iq y,.string s] w λe w'=>e=Rw (.tuple #[])/\Cv 73 w' M W H (wrL W H f g bd cx cy ca cb x y s.data.toList c)/\bp M w w':=by
 have za:s.data.toList.length=s.size:=by rw[dZ];rfl
 have hR:=aX s.data.toList;have hC:=bu (ak s.data.toList);rw[za]at hR;have L:=cE (ak s.data.toList);have t:=h.cv.lt;obtain⟨A,hA⟩:=ad w.heap.size;obtain⟨r,G⟩:=ad (w.alloc (.cells #[Pq K,Iq f,Iq g,Iq bd,Iq cx,Iq cy,Iq ca,Iq cb] 54));have HB1:Hid (Bt w r):=by rw[<-G];exact((Gr.refl w).alloc _).below
 have J:r.heap[A]?=some (.cells #[Pq K,Iq f,Iq g,Iq bd,Iq cx,Iq cy,Iq ca,Iq cb] 54 (0,0)):=by rw[<-G,<-hA];exact heap_alloc_new _ _
 have D:Hid (∀u:World,u.heap[A]?=r.heap[A]?->u.cell? (aj A 0)=some (Pq K)/\u.cell? (aj A 1)=some (Iq f)/\u.cell? (aj A 2)=some (Iq g)/\u.cell? (aj A 3)=some (Iq bd)/\u.cell? (aj A 4)=some (Iq cx)/\u.cell? (aj A 5)=some (Iq cy)/\u.cell? (aj A 6)=some (Iq ca)/\u.cell? (aj A 7)=some (Iq cb)):=λu hu=>by refine⟨?_,?_,?_,?_,?_,?_,?_,?_⟩<;>(rw[Lib.cell_of_heap (hu.trans J)];rfl)
 have E:=qH<|(aD.1 J).1;obtain⟨z0,z1,z2,z3,z4,z5,z6,z7⟩:=D r rfl;have d:=qH h;have HP:=qH hp;have GC:Hid (Cw 135 #[.string s] r λe w'=>∃v,e=Rw v/\Hid (lV w' v (aG (ak s.data.toList)))/\Hid (∀q,v.ownBlock=some q->r.heap.size<=q)/\Bt r w'):=by refine(ga s r (ht.below HB1) hs).mono ?_;rintro e w1 ⟨v,rfl,o,b⟩;exact⟨v,rfl,pP o,λq hq=>(o.lt q hq).1,b⟩
 unfold wrL;obtain⟨l,hl⟩:=ad (aG (ak s.data.toList));rw[hl]at GC hC L⊢;have O:=qH L;have zn:IntKind.i64.wrap (cy+cb)=cy+cb:=IntWalk.i64_in _ dg;clear hl za ht L h hp J;unfold Gp;go_enter func64,ntmps64;by_cases h1:y<cy;·rw[if_pos (.inl h1)];go_wp2;refine bodyPost_ret (results_none rfl _ _ _) rfl ?_;exact⟨rfl,d.cv.ch (bp.below HB1) (Ai t),bp.below HB1⟩
 by_cases h2:cy+cb<=y;·rw[if_pos (.inr h2)];go_wp2;refine bodyPost_ret (results_none rfl _ _ _) rfl ?_;exact⟨rfl,d.cv.ch (bp.below HB1) (Ai t),bp.below HB1⟩
 rw[if_neg dg];go_wp2_with fail;refine GC.mono ?_;rintro e w2 ⟨v,rfl,⟨a,sO,rfl,hh⟩,HO,b2⟩;have HB2:=qH<|HB1.trans (b2.mono HB1.size);have B:Hid (∀u:World,u.heap[A]?=w2.heap[A]?->u.heap[A]?=r.heap[A]?):=λu hu=>hu.trans (b2.block A E);have m:=qH<|zz007 E b2.size;have Q:Hid (M<A):=by rw[<-hA];exact t
 have zi:=qH<|zz108 Q E;have zc:=qH<|d.cv.keep (HB2.block M t);have HK:=qH<|HB2.block K d.klt;clear GC b2 z0 z1 z2 z3 z4 z5 z6 z7 G hA;go_wp2;go_loopw[1,29] (λxv iv wr=>∃k:Nat,k<=l.length/\iv=Iq k/\xv=Iq (x+ai (l.take k))/\Hid (Cv 73 wr M W H (wrF W H f g bd cx cy ca cb y (l.take k) x c))/\Hid (bp M w2 wr)) (λ_ i _=>l.length-(intOf i).toNat);case atStart=>exact⟨0,aR _,rfl,by grind[ai],zc,bp.refl _ _⟩
 case round=>
  obtain⟨k,hk,rfl,rfl,HV,C⟩:=hrel;have zk:=bB l O k;by_cases j:k<l.length
  ·have Y:(k:Int)<(l.length:Int):=dg
   have Z:l≠[]:=λe=>rd;obtain⟨b,off,rfl,hb,hc⟩:=hh.resolve_left Z;have V:b≠M:=by have:=HO b rfl;have:=zi.out;omega
   have U:A≠M:=by have:=Q.out;omega
   obtain⟨y0,y1,y2,y3,y4,y5,y6,y7⟩:=D wr (B wr (C.block A m U));obtain⟨T,p,n⟩:∃T p,l[k]=(T,p):=⟨_,_,rfl⟩;have zb:=O l[k] (iE j);have c0:wr.cell? (aj b (off+k*2))=some (.string ⟨T.toArray⟩):=by have:=(hc k j).1;rw[n]at this;exact(bf (a:=(aj b (off+k*2))) (C.block b hb V)).trans this
   have c1:wr.cell? (aj b (off+k*2+1))=some (Iq p):=by have:=(hc k j).2;rw[n]at this;exact(bf (a:=(aj b (off+k*2+1))) (C.block b hb V)).trans this
   have HS:Hid (ai (l.take (k+1))=ai (l.take k)+p):=by show _=_;rw[wideSum_snoc l k j,n]
   have R:=qH<|wrF_next W H f g bd cx cy ca cb y l k j x c;rw[n]at zb R;simp only at zb R;obtain⟨X,hX⟩:=ad (ai (l.take k));rw[hX]at HS zk R;rw[hX];obtain⟨N,I⟩:=ad (wr.alloc (.cells #[.string ⟨T.toArray⟩,Iq p] 222));have F:Hid (Gr wr N):=by rw[<-I];exact(Gr.refl wr).alloc _
   have z:kR 222 N wr.heap.size ⟨T.toArray⟩ p:=by rw[<-I];exact kR.new _ _ _ _
   have zg:=qH z;have r0:=z.c0;have r1:=z.c1;obtain⟨x0,x1,x2,x3,x4,x5,x6,x7⟩:=D N (((F.block (zz007 m C.size))).trans (B wr (C.block A m U)));have S:=qH<|PAll.wrF hW hH f g bd cx cy ca cb y (l.take k) x HP;have PT:Hid (Cw 136 #[Pq K,Iq (x+X),Iq y,.agg #[.string ⟨T.toArray⟩,Iq p],sv f g bd,rv cx cy ca cb] N λe w'=>e=Rw (.tuple #[])/\Hid (Cv 73 w' M W H (wrF W H f g bd cx cy ca cb y (l.take (k+1)) x c))/\Hid (bp M N w')):=by have hk:=(C.block K (zz007 d.klt HB2.size) d.ne).trans HK;have zj:CS 91 73 wr K M cap W H (wrF W H f g bd cx cy ca cb y (l.take k) x c):=⟨hk.trans d.kb,HV,d.ne,d.hc⟩;rw[R.out];exact Mk N (zj.gr F) hW hH S (x+X) y ⟨T.toArray⟩ p f g bd cx cy ca cb
   have ze:=qH<|HV.lt;unfold sv rv at PT;have zo:IntKind.i64.wrap (x+X+p)=x+X+p:=IntWalk.i64_in _ dg;have HE:Hid (x+ai (l.take (k+1))=x+X+p):=by show _=_;rw[HS.out];omega
   clear hc n hX Z hh z R HV S;go_wp2_with fail;clear I;refine PT.mono ?_;rintro e w4 ⟨rfl,zh,P⟩;have s1:=(zg.ch P (by have:=ze.out;omega)).c1;clear PT;go_wp2;go_roundw;case rel=>exact⟨k+1,j,by go_num,by rw[HE.out],zh,C.trans ((bp.gr F).trans P)⟩
   case measure=>simp[intOf];omega
  ·have Y:¬(k:Int)<(l.length:Int):=dg
   obtain rfl:k=l.length:=dg;go_wp2;go_end0;refine⟨rfl,?_,(bp.below HB2).trans C⟩;have:=HV.out;grind
end
