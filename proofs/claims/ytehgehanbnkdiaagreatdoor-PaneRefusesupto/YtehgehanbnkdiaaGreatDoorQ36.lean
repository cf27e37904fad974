import Derived.Test.YtehgehanbnkdiaaGreatDoorQ10
import Derived.Test.YtehgehanbnkdiaaGreatDoorQ34
set_option linter.all false
set_option maxRecDepth 100000
set_option maxHeartbeats 16000000
namespace Go.Proofs.YtehgehanbnkdiaaGreatDoor
open Go.RowKit Go.Sort Go.Proofs.Tryz
def E0(K:Nat)(f g bd cx cy ca cb:Int):Fd:=.agg #[Pq K,Iq f,Iq g,Iq bd,Iq cx,Iq cy,Iq ca,Iq cb]
section
variable(W H:Nat) (f g bd cx cy ca cb:Int)
def wrF(y:Int):List (List UInt8×Int)->Int->(Nat->Nat->Ce)->Nat->Nat->Ce
 |[],_,c=>c
 |q::r,x,c=>wrF y r (x+q.2) (mT W H c x y ⟨q.1.toArray⟩ q.2 f g bd cx cy ca cb)
def wrL(x y:Int)(s:zzf)(c:zzd):Nat->Nat->Ce:=if y<cy\/cy+cb<=y then c else wrF W H f g bd cx cy ca cb y (ba (az s)) x c
def xA y:∀  l   q   x   c,wrF W H f g bd cx cy ca cb y (l++[q]) x c=mT W H (wrF W H f g bd cx cy ca cb y l x c) (x+ak l) y ⟨q.1.toArray⟩ q.2 f g bd cx cy ca cb
 |[],q,x,c=>by show mT W H c x y _ _ _ _ _ _ _ _ _=mT W H c (x+0) y _ _ _ _ _ _ _ _ _;grind
 |p::l,q,x,c=>by show wrF W H f g bd cx cy ca cb y (l++[q]) (x+p.2) _=_;rw[xA y l q];grind[mT,wrF,ak]
def wrF_next y(l:List (List UInt8×Int))k(a:k<l.length)x c:wrF W H f g bd cx cy ca cb y (l.take (k+1)) x c=mT W H (wrF W H f g bd cx cy ca cb y (l.take k) x c) (x+ak (l.take k)) y ⟨l[k].1.toArray⟩ l[k].2 f g bd cx cy ca cb:=by rw[gx a,xA]
def qw{P:(Nat->Nat->Ce)->Prop}y:∀  l   x   c,(∀q∈l,∀x c,P c->P (mT W H c x y ⟨q.1.toArray⟩ q.2 f g bd cx cy ca cb))->P c->P (wrF W H f g bd cx cy ca cb y l x c)
 |[],_,_,_,h=>h
 |q::r,x,c,a,h=>qw y r _ _ (λp b=>a p (Cl _ b)) (a q xH x c h)
end
theorem PAll.wrF{W H:Nat}(b:1<=W/\W<=400)(a:1<=H/\H<=400)(f g bd cx cy ca cb y:Int)(l:List (List UInt8×Int))(x:Int){c:zzd}(h:PAll W H c):PAll W H (wrF W H f g bd cx cy ca cb y l x c):=
 qw W H f g bd cx cy ca cb (P:=PAll W H) y l x c (λq _ x c d=>d.putX b a _ _ _ _ _ _ _ _ _ _ _) h
def PAll.wrL{W H:Nat}(b:1<=W/\W<=400)(a:1<=H/\H<=400)(f g bd cx cy ca cb x y:Int)(s:zzf){c:zzd}(h:PAll W H c):PAll W H (wrL W H f g bd cx cy ca cb x y s c):=by unfold Go.Proofs.YtehgehanbnkdiaaGreatDoor.wrL;grind[PAll.wrF]
section
variable{K M cap W H:Nat} {c:zzd}
def sI(w:AT)(h:CS 196 46 w K M cap W H c)(hW:1<=W/\W<=400)(hH:1<=H/\H<=400)(hp:PAll W H c)(ht:aY w)(x y f g bd cx cy ca cb:Int)(s:BY)(hs:s.size<=1099511627776)(hx:-1000000000000<=x/\x<=1000000000000)(zq:-1000000000000<=cy/\cy<=1000000000000)(zo:-1000000000000<=cb/\cb<=1000000000000):
 Cw 174 #[E0 K f g bd cx cy ca cb,Iq x,Iq y,.string s] w λe w'=>e=Rw (.tuple #[])/\Cv 46 w' M W H (wrL W H f g bd cx cy ca cb x y s.data.toList c)/\bM M w w':=by
 have ze:s.data.toList.length=s.size:=by rw[eK];rfl
 have hR:=bC s.data.toList;have hC:=ci (az s.data.toList);rw[ze]at hR;have L:=eV (az s.data.toList);have r:=h.cv.lt;obtain⟨A,hA⟩:=af w.heap.size;obtain⟨p,G⟩:=af (w.alloc (.cells #[Pq K,Iq f,Iq g,Iq bd,Iq cx,Iq cy,Iq ca,Iq cb] 148));have HB1:Hid (Bq w p):=by rw[<-G];exact((Gr.refl w).alloc _).below
 have J:p.heap[A]?=some (.cells #[Pq K,Iq f,Iq g,Iq bd,Iq cx,Iq cy,Iq ca,Iq cb] 148 (0,0)):=by rw[<-G,<-hA];exact heap_alloc_new _ _
 have D:Hid (∀u:AT,u.heap[A]?=p.heap[A]?->u.cell? (aq A 0)=some (Pq K)/\u.cell? (aq A 1)=some (Iq f)/\u.cell? (aq A 2)=some (Iq g)/\u.cell? (aq A 3)=some (Iq bd)/\u.cell? (aq A 4)=some (Iq cx)/\u.cell? (aq A 5)=some (Iq cy)/\u.cell? (aq A 6)=some (Iq ca)/\u.cell? (aq A 7)=some (Iq cb)):=λu hu=>by refine⟨?_,?_,?_,?_,?_,?_,?_,?_⟩<;>(rw[Lib.cell_of_heap (hu.trans J)];rfl)
 have E:=qH<|(aj.1 J).1;obtain⟨z0,z1,z2,z3,z4,z5,z6,z7⟩:=D p rfl;have d:=qH h;have HP:=qH hp;have GC:Hid (Cw 236 #[.string s] p λe w'=>∃v,e=Rw v/\Hid (uk w' v (ba (az s.data.toList)))/\Hid (∀q,v.ownBlock=some q->p.heap.size<=q)/\Bq p w'):=by refine(dR s p (ht.below HB1) hs).mono ?_;rintro e w1 ⟨v,rfl,o,b⟩;exact⟨v,rfl,tn o,λq hq=>(o.lt q hq).1,b⟩
 unfold wrL;obtain⟨l,hl⟩:=af (ba (az s.data.toList));rw[hl]at GC hC L|-;have O:=qH L;have zr:IntKind.i64.wrap (cy+cb)=cy+cb:=IntWalk.i64_in _ dg;clear hl ze ht L h hp J;unfold E0;go_enter func174,ntmps174;by_cases h1:y<cy;.rw[if_pos (.inl h1)];go_wp2;refine bodyPost_ret (results_none rfl _ _ _) rfl ?_;exact⟨rfl,d.cv.ch (bM.below HB1) (Nat.ne_of_lt r),bM.below HB1⟩
 by_cases h2:cy+cb<=y;.rw[if_pos (.inr h2)];go_wp2;refine bodyPost_ret (results_none rfl _ _ _) rfl ?_;exact⟨rfl,d.cv.ch (bM.below HB1) (Nat.ne_of_lt r),bM.below HB1⟩
 rw[if_neg dg];go_wp2_with fail;refine GC.mono ?_;rintro e w2 ⟨v,rfl,⟨a,tm,rfl,hh⟩,HO,b2⟩;have HB2:=qH<|HB1.trans (b2.mono HB1.size);have z:Hid (∀u:AT,u.heap[A]?=w2.heap[A]?->u.heap[A]?=p.heap[A]?):=λu hu=>hu.trans (b2.block A E);have m:=qH<|zz006 E b2.size;have Q:Hid (M<A):=by rw[<-hA];exact r
 have zl:=qH<|zz121 Q E;have zh:=qH<|d.cv.keep (HB2.block M r);have HK:=qH<|HB2.block K d.klt;clear GC b2 z0 z1 z2 z3 z4 z5 z6 z7 G hA;go_wp2;go_loopw[1,29] (λxv iv wr=>∃k:Nat,k<=l.length/\iv=Iq k/\xv=Iq (x+ak (l.take k))/\Hid (Cv 46 wr M W H (wrF W H f g bd cx cy ca cb y (l.take k) x c))/\Hid (bM M w2 wr)) (λ_ i _=>l.length-(intOf i).toNat);.exact⟨0,LT,rfl,by grind[ak],zh,bM.refl _ _⟩
 obtain⟨k,hk,rfl,rfl,HV,B⟩:=hrel;have zn:=cU l O k;by_cases j:k<l.length
 .have Y:(k:Int)<(l.length:Int):=dg;have Z:l≠[]:=λe=>rn;obtain⟨b,off,rfl,hb,hc⟩:=hh.resolve_left Z;have V:b≠M:=by have:=HO b rfl;have:=zl.out;omega
  have U:A≠M:=by have:=Q.out;omega
  obtain⟨y0,y1,y2,y3,y4,y5,y6,y7⟩:=D wr (z wr (B.block A m U));obtain⟨T,wd,n⟩:∃T wd,l[k]=(T,wd):=⟨_,_,rfl⟩;have zg:=O l[k] (kK j);have c0:wr.cell? (aq b (off+k*2))=some (.string ⟨T.toArray⟩):=by have:=(hc k j).1;rw[n]at this;exact(aQ (a:=(aq b (off+k*2))) (B.block b hb V)).trans this
  have c1:wr.cell? (aq b (off+k*2+1))=some (Iq wd):=by have:=(hc k j).2;rw[n]at this;exact(aQ (a:=(aq b (off+k*2+1))) (B.block b hb V)).trans this
  have HS:Hid (ak (l.take (k+1))=ak (l.take k)+wd):=qH<|by rw[eH l k j,n]
  have R:=qH<|wrF_next W H f g bd cx cy ca cb y l k j x c;rw[n]at zg R;simp only at zg R;obtain⟨X,hX⟩:=af (ak (l.take k));rw[hX]at HS zn R;rw[hX];obtain⟨N,I⟩:=af (wr.alloc (.cells #[.string ⟨T.toArray⟩,Iq wd] 337));have F:Hid (Gr wr N):=by rw[<-I];exact(Gr.refl wr).alloc _
  have t:lz 337 N wr.heap.size ⟨T.toArray⟩ wd:=by rw[<-I];exact lz.new _ _ _ _
  have zj:=qH t;have r0:=t.c0;have r1:=t.c1;obtain⟨x0,x1,x2,x3,x4,x5,x6,x7⟩:=D N (((F.block (zz006 m B.size))).trans (z wr (B.block A m U)));have S:=qH<|PAll.wrF hW hH f g bd cx cy ca cb y (l.take k) x HP;have PT:Hid (Cw 237 #[Pq K,Iq (x+X),Iq y,.agg #[.string ⟨T.toArray⟩,Iq wd],sv f g bd,rv cx cy ca cb] N λe w'=>e=Rw (.tuple #[])/\Hid (Cv 46 w' M W H (wrF W H f g bd cx cy ca cb y (l.take (k+1)) x c))/\Hid (bM M N w')):=by have hk:=(B.block K (zz006 d.klt HB2.size) d.ne).trans HK;have zm:CS 196 46 wr K M cap W H (wrF W H f g bd cx cy ca cb y (l.take k) x c):=⟨hk.trans d.kb,HV,d.ne,d.hc⟩;rw[R.out];exact MF N (zm.gr F) hW hH S (x+X) y ⟨T.toArray⟩ wd f g bd cx cy ca cb
  have zi:=qH<|HV.lt;unfold sv rv at PT;have zt:IntKind.i64.wrap (x+X+wd)=x+X+wd:=IntWalk.i64_in _ dg;have HE:Hid (x+ak (l.take (k+1))=x+X+wd):=qH<|by rw[HS.out];omega
  clear hc n hX Z hh t R HV S;go_wp2_with fail;clear I;refine Ut PT ?_;rintro w4 ⟨zk,P⟩;have s1:=(zj.ch P (by have:=zi.out;omega)).c1;clear PT;go_wp2;go_roundw;.exact⟨k+1,j,by go_num,by rw[HE.out],zk,B.trans ((bM.gr F).trans P)⟩
  .simp[intOf];omega
 .have Y:¬(k:Int)<(l.length:Int):=dg;obtain rfl:k=l.length:=dg;go_wp2;go_end0;refine⟨rfl,?_,(bM.below HB2).trans B⟩;have:=HV.out;grind
end
def J6(e:Ce):Prop:=kn e.f=e.f/\kn e.g=e.g/\bo e.b=e.b
def J7(e:Ce)(n:Int):Prop:=ba (az e.t.data.toList)=[(e.t.data.toList,n)]
structure U9(C:Nat->Ce)(lo hi i:Nat):Prop where
 sty:J6 (C i)
 part:(C i).p=0\/(C i).p=1\/(C i).p=2
 head:(C i).p=1->i+1<hi/\(C (i+1)).p=2/\(C (i+1)).f=(C i).f/\(C (i+1)).g=(C i).g/\(C (i+1)).b=(C i).b
 tail:(C i).p=2->lo<i/\(C (i-1)).p=1/\(C i).t=⟨#[]⟩
 text:(C i).p≠2->J7 (C i) ((C i).p+1)
def iL(C:Nat->Ce)(lo hi:Nat):Prop:=∀i,lo<=i->i<hi->U9 C lo hi i
structure gm(C:Nat->Ce)(lo hi x:Nat):Prop where
 low:lo<=x
 high:x<=hi
 ok:∀i,lo<=i->i<x->U9 C lo hi i
 no:x=lo\/(C (x-1)).p≠1
section
variable{C:Nat->Ce} {lo hi x:Nat}
def gm.start(h:lo<=hi):gm C lo hi lo:=⟨LE,h,λi b a=>absurd a dg,.inl rfl⟩
def gm.all(h:gm C lo hi hi):iL C lo hi:=h.ok
def gm.one(h:gm C lo hi x)(k:x<hi)(a:(C x).p=0)(d:J6 (C x))(j:J7 (C x) 1):gm C lo hi (x+1):=by
 refine⟨by have:=h.low;omega,k,λi b l=>?_,.inr (by rw[Nat.add_sub_cancel,a];decide)⟩;by_cases e:i=x;.subst e;exact⟨d,.inl a,λq=>(by rw[a]at q;cases q),λq=>(by rw[a]at q;cases q),λ_=>by rw[a];exact j⟩
 .exact h.ok i b dg
def gm.two(h:gm C lo hi x)(o:x+2<=hi)(j:(C x).p=1)(k:J6 (C x))(n:J7 (C x) 2)(a:C (x+1)=⟨⟨#[]⟩,(C x).f,(C x).g,(C x).b,2⟩):gm C lo hi (x+2):=by
 have d:(C (x+1)).p=2:=by rw[a]
 refine⟨by have:=h.low;omega,o,λi m r=>?_,.inr (by rw[show x+2-1=x+1 by omega,d];decide)⟩;by_cases e:i=x;.subst e;exact⟨k,.inr (.inl j),λ_=>⟨dg,d,by rw[a],by rw[a],by rw[a]⟩,λq=>(by rw[j]at q;cases q),λ_=>by rw[j];exact n⟩
 .by_cases l:i=x+1;.subst l;exact⟨by unfold J6;rw[a];exact k,.inr (.inr d),λq=>(by rw[d]at q;cases q),λ_=>⟨by have:=h.low;omega,by rw[Nat.add_sub_cancel];exact j,by rw[a]⟩,λq=>absurd d q⟩
  .exact h.ok i m dg
def gm.bad0(h:gm C lo hi x)(d:x<hi)(a:(C x).p=0)(b:¬(J6 (C x)/\J7 (C x) 1)):¬iL C lo hi:=λr=>by have q:=r x h.low d;refine b ⟨q.sty,?_⟩;have:=q.text (by rw[a];decide);rw[a]at this;exact this
def gm.bad1(h:gm C lo hi x)(d:x<hi)(a:(C x).p=1)(b:¬(J6 (C x)/\J7 (C x) 2)):¬iL C lo hi:=λr=>by have q:=r x h.low d;refine b ⟨q.sty,?_⟩;have:=q.text (by rw[a];decide);rw[a]at this;exact this
def gm.bad2(h:gm C lo hi x)(o:x<hi)(m:(C x).p=1)(n:¬(x+2<=hi/\C (x+1)=⟨⟨#[]⟩,(C x).f,(C x).g,(C x).b,2⟩)):¬iL C lo hi:=λr=>by have q:=r x h.low o;obtain⟨l,a,d,i,j⟩:=q.head m;have t:=r (x+1) (by have:=h.low;omega) l;have t2:=(t.tail a).2.2;refine n ⟨l,?_⟩;obtain⟨e,k⟩:∃e,C (x+1)=e:=⟨_,rfl⟩;rw[k]at a d i j t2;rw[k];obtain⟨t,f,g,b,p⟩:=e;simp only at a d i j t2;rw[a,d,i,j,t2]
def gm.bad3(h:gm C lo hi x)(i:x<hi)(a:(C x).p≠0)(b:(C x).p≠1):¬iL C lo hi:=λr=>by
 have q:=r x h.low i;have d:(C x).p=2:=by
  rcases q.part with e|e|e;.exact absurd e a
  .exact absurd e b
  .exact e
 obtain⟨t1,t2,_⟩:=q.tail d;rcases h.no with e|e;.omega
 .exact e t2
end
def qN(C:Nat->Ce)(n:Nat)(w:Int):Prop:=∃W H:Nat,w=(W:Int)/\n=H*W/\1<=W/\W<=400/\1<=H/\H<=400/\∀y,y<H->iL C (y*W) (y*W+W)
def oi(p:Int):Int:=if p=0 then 1 else if p=1 then 2 else 0
def km(p:Int)(w:AT):Calls Tryz.prog 180 #[.int .i64 p] w λe w'=>e=Rw (.int .i64 (oi p))/\w'=w:=by
 go_enter Tryz.func180,Tryz.ntmps180;by_cases a:p=0;.subst a;go_wp2;go_ret;exact⟨rfl,rfl⟩
 .have d:(p==0)=false:=by simpa using a
  by_cases b:p=1;.subst b;go_wp2;go_ret;exact⟨rfl,rfl⟩
  .have h:(p==1)=false:=by simpa using b
   go_wp2;go_ret;exact⟨by unfold oi;rw[if_neg a,if_neg b];rfl,rfl⟩
def DC(n:Int)(w:AT):Calls Tryz.prog 105 #[.int .i64 n] w λe w'=>e=Rw (.bool (decide (1<=n/\n<=400)))/\w'=w:=by
 go_enter Tryz.func105,Tryz.ntmps105;by_cases a:1<=n
 .by_cases b:n<=400;.rw[decide_eq_true ⟨a,b⟩];go_wp2;go_ret;exact⟨rfl,rfl⟩
  .rw[decide_eq_false (λq=>b q.2)];go_wp2;go_ret;exact⟨rfl,rfl⟩
 .rw[decide_eq_false (λq=>a q.1)];go_wp2;go_ret;exact⟨rfl,rfl⟩
def QI{W:AT}{B n size:Nat}{e:TypeId}{v:Fd}{b:List Fd}(h:W.ownsRow B e size v n b):∃p c,v=.slice p n c:=by
 rcases h.2 with⟨rfl,rfl⟩|⟨g,cap,a,rfl,_⟩;.exact⟨_,_,rfl⟩
 .exact⟨_,_,rfl⟩
def tu{a b:BY}(h:¬a=b):(a.toList==b.toList)=false:=by rw[beq_eq_false_iff_ne];intro e;rw[ByteArray.toList_eq,ByteArray.toList_eq]at e;exact h (jx (Array.toList_inj.1 e))
def K0(ct:zzf)(t:BY):Prop:=¬(⟨ct.toArray⟩:BY)=t
def AN(w w':AT)(r:Ending)(P:Prop):Prop:=∃b:Bool,r=Rw (.bool b)/\(b=true↔P)/\Bq w w'
def vy(e:Ce)(n:Int)(w:AT)(ht:aY w)(hs:e.t.size<=1099511627776):
 Calls Tryz.prog 181 #[Ba e,.int .i64 n] w λr w'=>AN w w' r (n≠0/\J6 e/\J7 e n):=by
 have zk:Tryz.prog.follows .mixedOrders=true:=pt;have HT:Hid (aY w):=ht;obtain⟨t,f,g,b,p⟩:=e;have u:Hid (∀w,Calls Tryz.prog 97 #[sv 0 0 0,sv f g b] w λe w'=>e=Rw (sv (kn f) (kn g) (bo b))/\Gr w w'):=λw=>by have:=lP 0 0 0 f g b w;rw[oJ,oJ,wG]at this;exact this
 clear ht;unfold Ba;unfold sv at u;go_enter Tryz.func181,Tryz.ntmps181;go_wp2_with fail;obtain⟨S,hS⟩:∃z,w.heap.size=z:=⟨_,rfl⟩;obtain⟨P,s⟩:∃z,w.alloc (.cells #[.string t,.int .i64 f,.int .i64 g,.int .i64 b,.int .i64 p] 46)=z:=⟨_,rfl⟩;have O:Hid (Gr w P):=by rw[<-s];exact(Gr.refl w).alloc _
 have o:Hid (R5 46 P S ⟨t,f,g,b,p⟩):=by rw[<-s,<-hS];exact R5.new w ⟨t,f,g,b,p⟩ _
 rw[s,hS];have HS:Hid (w.heap.size=S):=hS;clear s hS;have q0:=cell_grown o.out.lt o.out.c0;have q1:=cell_grown o.out.lt o.out.c1;have q2:=cell_grown o.out.lt o.out.c2;have q3:=cell_grown o.out.lt o.out.c3;by_cases h0:n=0;.subst h0;go_quiet_grown(first|(go_at_call 97;exact Calls.grown_of (u.out _)));go_wp2;go_ret;exact⟨false,rfl,At,(O.out.trans ⟨nq,osq,rfl⟩).below⟩
 .have e0:(n==0)=false:=by simpa using h0
  obtain⟨f2,j⟩:∃z,kn f=z:=⟨_,rfl⟩;obtain⟨I,k⟩:∃z,kn g=z:=⟨_,rfl⟩;obtain⟨G,i⟩:∃z,bo b=z:=⟨_,rfl⟩;rw[j,k,i]at u;by_cases J:f2=f
  .by_cases R:I=g
   .by_cases Z:G=b
    .subst J R Z;have zi:Hid (J6 ⟨t,f2,I,G,p⟩):=⟨j,k,i⟩;go_quiet_grown(first|(go_at_call 97;exact Calls.grown_of (u.out _)));have U:Hid (Gr w (grow (P.drewN nq) osq)):=O.out.trans ⟨nq,osq,rfl⟩;have V:Hid (R5 46 (grow (P.drewN nq) osq) S ⟨t,f2,I,G,p⟩):=o.out.gr ⟨nq,osq,rfl⟩;obtain⟨X,D⟩:∃z,grow (P.drewN nq) osq=z:=⟨_,rfl⟩;rw[D]at U V;rw[D];have c0:=V.out.c0;have CG:Hid (Calls Tryz.prog 236 #[.string t] X λe w'=>∃v,e=Rw v/\w'.ownsRow X.heap.size 337 2 v (ba (az t.data.toList)).length (du (ba (az t.data.toList)))/\Bq X w'):=dR t X (HT.out.below U.out.below) hs;obtain⟨K,hK⟩:∃K,ba (az t.data.toList)=K:=⟨_,rfl⟩;have l:Hid (J7 ⟨t,f2,I,G,p⟩ n↔K=[(t.data.toList,n)]):=by show _↔_;unfold J7;rw[hK]
     rw[hK]at CG;clear q0 q1 q2 q3 D hK j k i u;go_wp2_with fail;refine CG.out.mono ?_;rintro e w2 ⟨v,rfl,F,y⟩;have a:Hid (Bq w w2):=U.out.below.trans (y.mono U.out.below.size);have R2:Hid (R5 46 w2 S ⟨t,f2,I,G,p⟩):=(y.block _ V.out.lt).trans V.out;have z0:=cell_grown R2.out.lt R2.out.c0;clear y CG c0;obtain⟨m,L⟩:∃m,K.length=m:=⟨_,rfl⟩;by_cases Q:m=1
     .have zj:∃q A,K=[(q,A)]:=by
       rcases K with _|⟨⟨q,A⟩,_|⟨c2,K⟩⟩;.simp at L;omega
       .exact⟨q,A,rfl⟩
       .simp at L;omega
      obtain⟨q,A,rfl⟩:=zj;clear L Q;obtain⟨B,c1,rfl,_⟩:∃B c1,v=.slice (some (aq B 0)) 1 c1/\True:=by
       rcases F.2 with⟨_,h⟩|⟨B,c1,zl,e,_⟩;.cases h
       .exact⟨B,c1,e,trivial⟩
      have N:w2.cell? (aq B 0)=some (.string ⟨q.toArray⟩):=F.cellAt 0 (by decide);have y1:w2.cell? (aq B 1)=some (.int .i64 A):=F.cellAt 1 (by decide);have Y:=(F.lt B rfl).2;clear F;by_cases d:(⟨q.toArray⟩:BY)=t
      .have ze:Hid (q=t.data.toList):=qH<|by rw[<-d]
       rw[d]at N;have N:=cell_grown Y N;have y1:=cell_grown Y y1;clear d;by_cases E:A=n;.subst E;go_wp2_with fail;go_quiet_grown(fail);go_wp2;go_ret;exact⟨true,rfl,⟨λ_=>⟨h0,zi.out,l.out.2 (by rw[ze.out])⟩,λ_=>rfl⟩,(a.out.trans ((Gr.below ⟨nq,osq,rfl⟩).mono a.out.size))⟩
       .have e5:(A==n)=false:=by simpa using E
        go_wp2_with fail;go_quiet_grown(fail);go_wp2;go_ret;exact⟨false,rfl,⟨λh=>(nomatch h),λh=>by have:=l.out.1 h.2.2;injection this with this;injection this with _ this;exact absurd this E⟩,(a.out.trans ((Gr.below ⟨nq,osq,rfl⟩).mono a.out.size))⟩
      .have zg:Hid (K0 q t):=d;obtain⟨cb,T⟩:∃z,(⟨q.toArray⟩:BY)=z:=⟨_,rfl⟩;rw[T]at d N;have e5:(cb.toList==t.toList)=false:=tu d;have N:=cell_grown Y N;have y1:=cell_grown Y y1;clear T;go_wp2_with fail;go_quiet_grown(fail);go_wp2;go_ret;exact⟨false,rfl,⟨λh=>(nomatch h),λh=>by have:=l.out.1 h.2.2;injection this with this;injection this with this _;exact absurd (by rw[this]) zg.out⟩,(a.out.trans ((Gr.below ⟨nq,osq,rfl⟩).mono a.out.size))⟩
     .obtain⟨p1,c1,rfl⟩:∃p c,v=.slice p m c:=by rw[<-L];exact QI F
      have zh:Hid (∀x,K≠[x]):=λx hx=>Q (by rw[<-L,hx];rfl);have e5:((m:Int)==1)=false:=by simp;omega
      clear F L;clear z0;go_wp2_with fail;go_quiet(fail);go_wp2;go_ret;exact⟨false,rfl,⟨λh=>(nomatch h),λh=>absurd (l.out.1 h.2.2) (zh.out _)⟩,a.out.trans ((Gr.below ((Gr.refl _).drewN _)).mono a.out.size)⟩
    .have e3:(G==b)=false:=by simpa using Z
     subst J R;go_quiet_grown(first|(go_at_call 97;exact Calls.grown_of (u.out _)));go_wp2;go_ret;exact⟨false,rfl,⟨λh=>(nomatch h),λh=>by exfalso;first|exact Z (i.symm.trans h.2.1.2.2)|exact Z (i.symm.trans h.1.2.2)⟩,(O.out.trans ⟨nq,osq,rfl⟩).below⟩
   .have e3:(I==g)=false:=by simpa using R
    subst J;go_quiet_grown(first|(go_at_call 97;exact Calls.grown_of (u.out _)));go_wp2;go_ret;exact⟨false,rfl,⟨λh=>(nomatch h),λh=>by exfalso;first|exact R (k.symm.trans h.2.1.2.1)|exact R (k.symm.trans h.1.2.1)⟩,(O.out.trans ⟨nq,osq,rfl⟩).below⟩
  .have e3:(f2==f)=false:=by simpa using J
   go_quiet_grown(first|(go_at_call 97;exact Calls.grown_of (u.out _)));go_wp2;go_ret;exact⟨false,rfl,⟨λh=>(nomatch h),λh=>by exfalso;first|exact J (j.symm.trans h.2.1.1)|exact J (j.symm.trans h.1.1)⟩,(O.out.trans ⟨nq,osq,rfl⟩).below⟩
structure CL(Q:AT)(g off n:Nat)(C:Nat->Ce):Prop where
 lt:g<Q.heap.size
 cell:∀i,i<n->∀(k:Nat) u,(c5 (C i))[k]?=some u->Q.cell? (aq g (off+i*5+k))=some u
def CL.below{Q Q':AT}{g off n:Nat}{C:Nat->Ce}(h:CL Q g off n C)(a:Bq Q Q'):CL Q' g off n C:=
 ⟨zz006 h.lt a.size,λi hi k u hu=>(a.cell (p:=(aq g (off+i*5+k))) h.lt).trans (h.cell i hi k u hu)⟩
def lenOf:Fd->Nat
 |.slice _ n _=>n
 |_=>0
def D6(C:Nat->Ce)(g lo n hi cap N:Nat)(hn:lo+n=hi)(hN:hi<=N)(hb:N<=1048576)(zn:n<=cap)(zo:cap<=9223372036854775807)(w:AT)(hC:CL w g 0 N C)(ht:aY w)(hs:∀i,i<N->(C i).t.size<=1099511627776):
 Calls Tryz.prog 106 #[.slice (some (aq g (lo*5))) n cap] w λr w'=>AN w w' r (iL C lo hi):=by
 have zt:Tryz.prog.follows .mixedOrders=true:=pt;have HC:Hid (CL w g 0 N C):=hC;have HT:Hid (aY w):=ht;have HZ:Hid (∀i,i<N->(C i).t.size<=1099511627776):=hs;clear hC ht hs;go_enter Tryz.func106,Tryz.ntmps106;go_wp2;go_loopw[0] (λrv wr=>∃(x m c:Nat) (p:zze),Hid (gm C lo hi x)/\x+m=hi/\rv=.slice p m c/\m<=c/\c<=9223372036854775807/\(x<hi->p=some (aq g (x*5)))/\Hid (Bq w wr)) (λrv _=>lenOf rv);.exact⟨lo,n,cap,_,gm.start dg,hn,rfl,zn,zo,λ_=>rfl,Ok⟩
 obtain⟨x,m,c,p,A,hm,rfl,zv,zu,hp,HB⟩:=hrel;by_cases o:x<hi
 .obtain rfl:=hp o;have zq:(0:Int)<(m:Int):=dg;have zk:x<N:=dg;have V:=HC.out.below HB.out;obtain⟨e,Z⟩:∃e,C x=e:=⟨_,rfl⟩;have j:∀(k:Nat) u,(c5 e)[k]?=some u->wr.cell? (aq g (x*5+k))=some u:=λk u h=>by have:=V.cell x zk k u (by rw[Z];exact h);rw[b_]at this;exact this
  obtain⟨t,f,O,b,q⟩:=e;have d0:wr.cell? (aq g (x*5))=some (.string t):=j 0 _ rfl;have d1:=j 1 (.int .i64 f) rfl;have d2:=j 2 (.int .i64 O) rfl;have d3:=j 3 (.int .i64 b) rfl;have d4:=j 4 (.int .i64 q) rfl;clear j;have B:Hid (C x=⟨t,f,O,b,q⟩):=Z;clear Z;go_wp2_with fail;obtain⟨W0,Q⟩:∃z,wr.alloc (.cells #[.string t,.int .i64 f,.int .i64 O,.int .i64 b,.int .i64 q] 46)=z:=⟨_,rfl⟩;obtain⟨S,hS⟩:∃z,wr.heap.size=z:=⟨_,rfl⟩;have G0:Hid (Gr wr W0):=by rw[<-Q];exact(Gr.refl wr).alloc _
  have v:Hid (R5 46 W0 S ⟨t,f,O,b,q⟩):=by rw[<-Q,<-hS];exact R5.new wr ⟨t,f,O,b,q⟩ _
  have X:Hid (Bq w W0):=HB.out.trans (G0.out.below.mono HB.out.size);have zj:t.size<=1099511627776:=by have:=HZ.out x zk;rw[B.out]at this;exact this
  have IS:Hid (∀n,Calls Tryz.prog 181 #[.agg #[.string t,.int .i64 f,.int .i64 O,.int .i64 b,.int .i64 q],.int .i64 n] W0 λr w'=>∃L:Bool,r=Rw (.bool L)/\Hid (L=true↔(n≠0/\J6 (C x)/\J7 (C x) n))/\Hid (Bq w w')/\Hid (Bq W0 w')):=λn=>(vy ⟨t,f,O,b,q⟩ n W0 (HT.out.below X.out) zj).mono λr w' h=>by obtain⟨L,h1,h2,h3⟩:=h;rw[B.out];exact⟨L,h1,h2,X.out.trans (h3.mono X.out.size),h3⟩
  have P:Hid (∀w,Calls Tryz.prog 180 #[.int .i64 q] w λe w'=>e=Rw (.int .i64 (oi q))/\w'=w):=km q;rw[Q,hS];clear zj V Q hS;by_cases ze:q=0
  .subst ze;have D:Hid ((C x).p=0):=qH<|by rw[B.out]
   have P:Hid (∀w,Calls Tryz.prog 180 #[.int .i64 0] w λe w'=>e=Rw (.int .i64 1)/\w'=w):=P.out;refine Ut (P.out _) ?_;rintro w1 hw;obtain rfl:=hw.symm;have c0:=v.out.c0;have c1:=v.out.c1;have c2:=v.out.c2;have c3:=v.out.c3;have c4:=v.out.c4;go_wp2_with fail;refine(IS.out 1).mono ?_;rintro r R ⟨L,rfl,U,d,_⟩;clear c0 c1 c2 c3 c4;have zh:decide ((m:Int)<1)=false:=decide_eq_false dg;cases L with
   |false=>go_wp2;go_ret;exact⟨false,rfl,⟨λh=>(nomatch h),λh=>absurd h (A.out.bad0 o D.out λk=>(nomatch U.out.2 ⟨by decide,k.1,k.2⟩))⟩,d.out⟩
   |true=>have Y:Hid (gm C lo hi (x+1)):=A.out.one o D.out (U.out.1 rfl).2.1 (U.out.1 rfl).2.2;go_wp2_with fail;go_quiet(fail);go_wp2;refine⟨⟨x+1,m-1,c-1,_,Y.out,dg,rfl,dg,dg,λhx=>?_,(d.out.trans ((Gr.below ((Gr.refl _).drewN _)).mono d.out.size))⟩,by simp only[lenOf];omega⟩;rw[if_neg dg,fx,C9]
  .by_cases zg:q=1
   .subst zg;have D:Hid ((C x).p=1):=qH<|by rw[B.out]
    have P:Hid (∀w,Calls Tryz.prog 180 #[.int .i64 1] w λe w'=>e=Rw (.int .i64 2)/\w'=w):=P.out;refine Ut (P.out _) ?_;rintro w1 hw;obtain rfl:=hw.symm;have c0:=v.out.c0;have c1:=v.out.c1;have c2:=v.out.c2;have c3:=v.out.c3;have c4:=v.out.c4;go_wp2_with fail;refine(IS.out 2).mono ?_;rintro r R ⟨L,rfl,U,d,T⟩;clear c0 c1 c2 c3 c4;cases L with
    |false=>go_wp2;go_ret;exact⟨false,rfl,⟨λh=>(nomatch h),λh=>absurd h (A.out.bad1 o D.out λk=>(nomatch U.out.2 ⟨by decide,k.1,k.2⟩))⟩,d.out⟩
    |true=>
     have HY:Hid (J6 (C x)/\J7 (C x) 2):=(U.out.1 rfl).2;by_cases zi:x+2<=hi
     .have zh:decide ((m:Int)<2)=false:=decide_eq_false dg;have zr:(1:Int)<(m:Int):=dg;have R2:Hid (R5 46 R S ⟨t,f,O,b,1⟩):=(T.out.block _ v.out.lt).trans v.out;have c1:=R2.out.c1;have c2:=R2.out.c2;have c3:=R2.out.c3;have V:=HC.out.below d.out;obtain⟨e,Z⟩:∃e,C (x+1)=e:=⟨_,rfl⟩;have j:∀(k:Nat) u,(c5 e)[k]?=some u->R.cell? (aq g (x*5+5+k))=some u:=λk u h=>by have:=V.cell (x+1) dg k u (by rw[Z];exact h);rw[b_,fx,C9]at this;exact this
      obtain⟨t1,f1,g1,b1,q1⟩:=e;have d0:R.cell? (aq g (x*5+5))=some (.string t1):=j 0 _ rfl;have d1:R.cell? (aq g (x*5+6))=some (.int .i64 f1):=j 1 _ rfl;have d2:R.cell? (aq g (x*5+7))=some (.int .i64 g1):=j 2 _ rfl;have d3:R.cell? (aq g (x*5+8))=some (.int .i64 b1):=j 3 _ rfl;have d4:R.cell? (aq g (x*5+9))=some (.int .i64 q1):=j 4 _ rfl;have y:Hid (C (x+1)=⟨t1,f1,g1,b1,q1⟩):=Z;clear Z j V;go_wp2_with fail;by_cases k0:t1=⟨#[]⟩
      .subst k0;by_cases k1:f1=f
       .subst k1;by_cases s:g1=O
        .subst s;by_cases k3:b1=b
         .subst k3;by_cases k4:q1=2;.subst k4;have Y:Hid (gm C lo hi (x+2)):=A.out.two zi D.out HY.out.1 HY.out.2 (by rw[y.out,B.out]);go_quiet(fail);go_wp2;refine⟨⟨x+2,m-2,c-2,_,Y.out,dg,rfl,dg,dg,λhx=>?_,(d.out.trans ((Gr.below ((Gr.refl _).drewN _)).mono d.out.size))⟩,by simp only[lenOf];omega⟩;rw[if_neg dg,fx]
          .have e5:(q1==2)=false:=by simpa using k4
           go_quiet(fail);go_wp2;go_ret;exact⟨false,rfl,⟨λh=>(nomatch h),λh=>absurd h (A.out.bad2 o D.out λk=>by have s:=k.2;rw[y.out,B.out]at s;injection s with E F G I J;exact k4 J)⟩,(d.out.trans ((Gr.below ((Gr.refl _).drewN _)).mono d.out.size))⟩
         .have e5:(b1==b)=false:=by simpa using k3
          go_quiet(fail);go_wp2;go_ret;exact⟨false,rfl,⟨λh=>(nomatch h),λh=>absurd h (A.out.bad2 o D.out λk=>by have s:=k.2;rw[y.out,B.out]at s;injection s with E F G I J;exact k3 I)⟩,(d.out.trans ((Gr.below ((Gr.refl _).drewN _)).mono d.out.size))⟩
        .have e5:(g1==O)=false:=by simpa using s
         go_quiet(fail);go_wp2;go_ret;exact⟨false,rfl,⟨λh=>(nomatch h),λh=>absurd h (A.out.bad2 o D.out λk=>by have s:=k.2;rw[y.out,B.out]at s;injection s with E F G I J;exact s G)⟩,(d.out.trans ((Gr.below ((Gr.refl _).drewN _)).mono d.out.size))⟩
       .have e5:(f1==f)=false:=by simpa using k1
        go_quiet(fail);go_wp2;go_ret;exact⟨false,rfl,⟨λh=>(nomatch h),λh=>absurd h (A.out.bad2 o D.out λk=>by have s:=k.2;rw[y.out,B.out]at s;injection s with E F G I J;exact k1 F)⟩,(d.out.trans ((Gr.below ((Gr.refl _).drewN _)).mono d.out.size))⟩
      .have e5:(t1.toList==(⟨#[]⟩:BY).toList)=false:=tu k0;have e6:(t1.toList==[])=false:=by have q:=e5;rw[ByteArray.toList_eq (⟨#[]⟩:BY)]at q;exact q
       have e7:t1.toList.isEmpty=false:=by rw[beq_eq_false_iff_ne]at e6;cases h:t1.toList with
        |nil=>exact absurd h e6
        |cons a l=>rfl
       have e8:¬t1.toList=[]:=by rw[beq_eq_false_iff_ne]at e6;exact e6
       go_quiet(fail);go_wp2;go_ret;exact⟨false,rfl,⟨λh=>(nomatch h),λh=>absurd h (A.out.bad2 o D.out λk=>by have s:=k.2;rw[y.out,B.out]at s;injection s with E F G I J;exact k0 E)⟩,(d.out.trans ((Gr.below ((Gr.refl _).drewN _)).mono d.out.size))⟩
     .have zh:decide ((m:Int)<2)=true:=decide_eq_true dg;go_wp2;go_ret;exact⟨false,rfl,⟨λh=>(nomatch h),λh=>absurd h (A.out.bad2 o D.out λk=>zi k.1)⟩,d.out⟩
   .have zl:Hid ((C x).p≠0):=by show _≠_;rw[B.out];exact ze
    have zm:Hid ((C x).p≠1):=by show _≠_;rw[B.out];exact zg
    have P:Hid (∀w,Calls Tryz.prog 180 #[.int .i64 q] w λe w'=>e=Rw (.int .i64 0)/\w'=w):=λw=>by have:=P.out w;unfold oi at this;rw[if_neg ze,if_neg zg]at this;exact this
    refine Ut (P.out _) ?_;rintro w1 hw;obtain rfl:=hw.symm;have c0:=v.out.c0;have c1:=v.out.c1;have c2:=v.out.c2;have c3:=v.out.c3;have c4:=v.out.c4;go_wp2_with fail;refine(IS.out 0).mono ?_;rintro r R ⟨L,rfl,U,d,T⟩;clear c0 c1 c2 c3 c4;cases L with
    |true=>exact absurd rfl (U.out.1 rfl).1
    |false=>go_wp2;go_ret;exact⟨false,rfl,⟨λh=>(nomatch h),λh=>absurd h (A.out.bad3 o zl.out zm.out)⟩,d.out⟩
 .have zq:¬(0:Int)<(m:Int):=dg;obtain rfl:x=hi:=by have:=A.out.high;omega
  go_wp2;go_ret;exact⟨true,rfl,⟨λ_=>A.out.all,λ_=>rfl⟩,HB.out⟩
structure CB(Q:AT)(g off n:Nat)(C:Nat->Ce):Prop where
 at_:∃cs fz,Q.heap[g]?=some (.cells cs 46 fz)
 cl:CL Q g off n C
def CB.kept{Q Q':AT}{g off n:Nat}{C:Nat->Ce}(h:CB Q g off n C)(j:∀a b,Q.heap[g]?=some (.cells a 46 b)->Q'.heap[g]?=some (.cells a 46 b)):CB Q' g off n C:=by obtain⟨a,b,e⟩:=h.at_;have d:=j a b e;refine⟨⟨a,b,d⟩,(aj.1 d).1,λi hi k u hu=>?_⟩;have:=h.cl.cell i hi k u hu;rw[Lib.cell_of_heap e]at this;rw[Lib.cell_of_heap d];exact this
def CB.low{w b:AT}{q off n:Nat}{C:Nat->Ce}(h:CB w q off n C)(d:Bq w b):CB b q off n C:=h.kept λe i a=>(d.block _ (aj.1 a).1).trans a
def Mq{C:Nat->Ce}{n:Nat}{v:Int}(h:¬(1<=v/\v<=400)):¬qN C n v:=fun⟨W,H,a,_,b,d,_⟩=>h dg
def wC{C:Nat->Ce}{n W:Nat}(h:¬n %W=0):¬qN C n (W:Int):=fun⟨a,H,d,b,_⟩=>by obtain rfl:W=a:=dg;exact h (by rw[b];exact Nat.mul_mod_left _ _)
def wA{C:Nat->Ce}{W H:Nat}(j:1<=W)(h:¬(1<=H/\H<=400)):¬qN C (H*W) (W:Int):=fun⟨b,a,k,d,_,_,e,i,_⟩=>by obtain rfl:W=b:=dg;have:H=a:=JW j d;subst this;exact h ⟨e,i⟩
def MS{C:Nat->Ce}{W H:Nat}(d:1<=W)(b:W<=400)(l:1<=H)(a:H<=400):qN C (H*W) (W:Int)↔∀y,y<H->iL C (y*W) (y*W+W):=by
 constructor;.rintro⟨i,e,m,j,_,_,_,_,k⟩;obtain rfl:W=i:=dg;have:H=e:=JW d j;subst this;exact k
 .intro h;exact⟨W,H,rfl,rfl,d,b,l,a,h⟩
def kT(C:Nat->Ce)(v:Int)(p:zze)(n cap:Nat)(hb:n<=1048576)(P:n<=cap)(Q:cap<=9223372036854775807)(w:AT)(hC:n=0\/∃g,p=some (aq g 0)/\CL w g 0 n C)(ht:aY w)(hs:∀i,i<n->(C i).t.size<=1099511627776):
 Calls Tryz.prog 66 #[.slice p n cap,.int .i64 v] w λr w'=>AN w w' r (qN C n v):=by
 have J:Hid (∀n w,Calls Tryz.prog 105 #[.int .i64 n] w λe w'=>e=Rw (.bool (decide (1<=n/\n<=400)))/\w'=w):=DC;by_cases V:1<=v/\v<=400
 .obtain⟨W,rfl⟩:∃W:Nat,v=(W:Int):=⟨v.toNat,dg⟩;have a:Hid (∀w,Calls Tryz.prog 105 #[.int .i64 (W:Int)] w λe w'=>e=Rw (.bool true)/\w'=w):=λw=>by have:=J.out (W:Int) w;rw[decide_eq_true V]at this;exact this
  have O:¬(W:Int)=0:=dg;by_cases A:n %W=0
  .have U:((n:Int) %(W:Int)!=0)=false:=by have:(n:Int) %(W:Int)=((n %W:Nat):Int):=dg;rw[this,A];rfl
   obtain⟨H,q⟩:∃H,n=H*W:=⟨n/W,by have:=Cz n W;rw[A,eJ]at this;omega⟩;have T:(n:Int)/(W:Int)=(H:Int):=by rw[q,Int.natCast_mul];exact C_ _ O
   have o:Hid (n=H*W):=q;have ze:H<=n:=by rw[q];exact JE _ dg
   have zk:wrap64 ((n:Int)/(W:Int))=(H:Int):=by rw[T];unfold wrap64;omega
   by_cases hh:1<=H/\H<=400
   .have k:Hid (∀w,Calls Tryz.prog 105 #[.int .i64 (H:Int)] w λe w'=>e=Rw (.bool true)/\w'=w):=λw=>by have:=J.out (H:Int) w;rw[decide_eq_true dg]at this;exact this
    obtain⟨g,rfl,G⟩:∃g,p=some (aq g 0)/\CL w g 0 n C:=by
     rcases hC with h|h;.have:H*W=0:=dg;rcases Nat.mul_eq_zero.1 this with h|h<;>omega
     .exact h
    have HC:Hid (CL w g 0 n C):=G;have HT:Hid (aY w):=ht;have HZ:Hid (∀i,i<n->(C i).t.size<=1099511627776):=hs;have E:Hid (qN C n (W:Int)↔∀y,y<H->iL C (y*W) (y*W+W)):=by show _↔_;rw[q];exact MS dg dg hh.1 hh.2
    clear G hC ht hs T A q;go_enter Tryz.func66,Tryz.ntmps66;go_wp2_with fail;refine Ut (a.out _) ?_;rintro I b;obtain rfl:=b.symm;go_wp2_with fail;refine Ut (k.out _) ?_;rintro I b;obtain rfl:=b.symm;go_wp2;go_loopw[0] (λrv wr=>∃(y x m c:Nat) (p:zze),y<=H/\Hid (x=y*W)/\Hid (∀d,d<y->iL C (d*W) (d*W+W))/\x+m=n/\rv=.slice p m c/\m<=c/\c<=9223372036854775807/\(x<n->p=some (aq g (x*5)))/\Hid (Bq w wr)) (λrv _=>lenOf rv);.exact⟨0,0,n,cap,_,LT,by show 0=0*W;rw[Nat.zero_mul],λd h=>absurd h dg,dg,rfl,P,Q,λ_=>rfl,Ok⟩
    obtain⟨y,x,m,c,p,hy,F,HR,hm,rfl,zj,zi,hp,B⟩:=hrel;by_cases R:x<n
    .obtain rfl:=hp R;have S:(0:Int)<(m:Int):=dg;have s:y<H:=by
      rcases Nat.lt_or_ge y H with h|h;.exact h
      .have j:y=H:=dg;have z:=F.out;have N:=o.out;rw[j]at z;omega
     have X:x+W<=n:=by have j:(y+1)*W<=H*W:=iN _ s;rw[fx,C9,<-F.out,<-o.out]at j;exact j
     have zh:W<=m:=dg;have IR:Hid (∀cap,W<=cap->cap<=9223372036854775807->Calls Tryz.prog 106 #[.slice (some (aq g (x*5))) W cap] wr λr w'=>∃u:Bool,r=Rw (.bool u)/\Hid (u=true↔iL C (y*W) (y*W+W))/\Hid (Bq w w')):=λcap j z=>(D6 C g x W (x+W) cap n rfl X hb j z wr (HC.out.below B.out) (HT.out.below B.out) HZ.out).mono λr w' h=>by obtain⟨u,j,z,N⟩:=h;rw[<-F.out];exact⟨u,j,z,B.out.trans (N.mono B.out.size)⟩
     have zg:W<=c:=dg;go_wp2_with fail;refine(IR.out _ dg dg).mono ?_;rintro r w2 ⟨u,rfl,Z,D⟩;cases u with
     |false=>go_wp2;go_ret;exact⟨false,rfl,⟨λh=>(nomatch h),λh=>(nomatch Z.out.2 (E.out.1 h y s))⟩,D.out⟩
     |true=>
      have L:Hid (∀d,d<y+1->iL C (d*W) (d*W+W)):=λd h=>by
       by_cases e:d=y;.subst e;exact Z.out.1 rfl
       .exact HR.out d dg
      go_wp2;refine⟨⟨y+1,x+W,m-W,c-W,_,s,by show _=_;rw[F.out,fx,C9],L.out,dg,rfl,dg,dg,λhx=>?_,D.out⟩,by simp only[lenOf];omega⟩;rw[if_neg dg,fx]
    .have S:¬(0:Int)<(m:Int):=dg;have Y:y=H:=by have z:=F.out;have N:=o.out;have h4:y*W=H*W:=dg;exact JW dg h4
     subst Y;go_wp2;go_ret;exact⟨true,rfl,⟨λ_=>E.out.2 HR.out,λ_=>rfl⟩,B.out⟩
   .have k:Hid (∀w,Calls Tryz.prog 105 #[.int .i64 (H:Int)] w λe w'=>e=Rw (.bool false)/\w'=w):=λw=>by have:=J.out (H:Int) w;rw[decide_eq_false dg]at this;exact this
    have l:Hid (¬qN C n (W:Int)):=by show¬_;rw[q];exact wA dg hh
    clear T q A;go_enter Tryz.func66,Tryz.ntmps66;go_wp2_with fail;refine Ut (a.out _) ?_;rintro I b;obtain rfl:=b.symm;go_wp2_with fail;refine Ut (k.out _) ?_;rintro I b;obtain rfl:=b.symm;go_wp2;go_ret;exact⟨false,rfl,⟨λh=>(nomatch h),λh=>absurd h l.out⟩,Ok⟩
  .have U:((n:Int) %(W:Int)!=0)=true:=by have:(n:Int) %(W:Int)=((n %W:Nat):Int):=dg;rw[this];simp;omega
   have l:Hid (¬qN C n (W:Int)):=wC A;clear A;go_enter Tryz.func66,Tryz.ntmps66;go_wp2_with fail;refine Ut (a.out _) ?_;rintro I b;obtain rfl:=b.symm;go_wp2;go_ret;exact⟨false,rfl,⟨λh=>(nomatch h),λh=>absurd h l.out⟩,Ok⟩
 .have a:Hid (∀w,Calls Tryz.prog 105 #[.int .i64 v] w λe w'=>e=Rw (.bool false)/\w'=w):=λw=>by have:=J.out v w;rw[decide_eq_false V]at this;exact this
  go_enter Tryz.func66,Tryz.ntmps66;go_wp2_with fail;refine Ut (a.out _) ?_;rintro I b;obtain rfl:=b.symm;go_wp2;go_ret;exact⟨false,rfl,⟨λh=>(nomatch h),λh=>absurd h (Mq V)⟩,Ok⟩
def I8{W H j:Nat}(a:j<H*W):∃y x,y<H/\x<W/\j=y*W+x:=by
 have b:0<W:=by rcases Cp W with h|h;subst h;simp at a;exact h
 exact⟨j/W,j %W,Cy (by rw[eJ];exact a),Cx _ b,by rw[eJ];exact(Cz j W).symm⟩
def j_(W:Nat)(c:zzd)(i:Nat):Ce:=c (i/W) (i %W)
def BE{W x:Nat}(c:zzd)(y:Nat)(a:x<W):j_ W c (y*W+x)=c y x:=by unfold j_;rw[Nat.add_comm,Nat.add_mul_mod_self_right,Nat.mod_eq_of_lt a,Nat.add_mul_div_right _ _ dg,Ct a,b_]
def Bf{Q:AT}{M W H:Nat}{c:zzd}(h:Cv 46 Q M W H c):CB Q M 0 (H*W) (j_ W c):=by obtain⟨a,d⟩:=h.arr;refine⟨⟨_,_,d⟩,h.lt,λi hi k u hu=>?_⟩;obtain⟨y,x,hy,b,rfl⟩:=I8 hi;rw[BE c y b]at hu;have:=h.cell y x hy b k u hu;rw[show 0+(y*W+x)*5+k=y*W*5+x*5+k by rw[fx];omega];exact this
def uP:∀(n:Nat) (R:zzc),R.length<=n->(∀r∈R,Good r)->∀c∈ba R,ba (az c.1)=[c]/\c.1.length<=20
 |n,[],_,_,c,a=>by rw[fP]at a;cases a
 |0,r::R,h,_,_,_=>by simp at h
 |n+1,r::R,h,i,c,a=>by
  rw[ek (JX _ _)]at a;rcases kD.1 a with rfl|a
  .have j:=uH (r::R) i;have d:=Ge (JX r R) [] (λx b=>by cases b);rw[iP,fP]at d;refine⟨?_,?_⟩
   .have e:az (eh (r::R))=dD (r::R):=by rw[jF];exact Eu _ j
    show ba (az (eh (r::R)))=_;rw[e];exact d
   .show(eh (r::R)).length<=20;have k:=tA (dD (r::R));have l:=gE (r::R);rw[jF];omega
  .have m:=dC (JX r R);exact uP n _ (by rw[dq];simp at h|-;omega) (λx b=>i x (kN b)) c a
def R'(e:Ce):Prop:=e.p=2\/ba (az e.t.data.toList)=[(e.t.data.toList,1+e.p)]/\e.t.size<=20
def UH(t:BY)(wd:Int):Prop:=wd=1\/wd=2->ba (az t.data.toList)=[(t.data.toList,wd)]/\t.size<=20
def GJ:ba (az P8.data.toList)=[(P8.data.toList,1+0)]/\P8.size<=20:=by decide+kernel
def GI(f g b:Int):R' (bk f g b):=.inr GJ
def QN(c:Ce):R' (bl c):=.inr GJ
def Lm{s:zzf}{c:List UInt8×Int}(a:c∈ba (az s)):UH ⟨c.1.toArray⟩ c.2:=λ_=>by have:=uP _ _ LE (Ah s) c a;exact⟨by simpa using this.1,by simpa[ByteArray.size]using this.2⟩
def xT(W H:Nat)(c:zzd):Prop:=∀y x,y<H->x<W->R' (c y x)
def xT.fill{W H l r t d:Nat}{c:zzd}{x:Nat->Ce}(h:xT W H c)(i:PAll W H c)(k:r<=W)(m:∀j,R' (x j)):xT W H (fill c l r t d x):=λy j hy b=>by
 by_cases a:t<=y/\y<d/\l<=j/\j<r
 .have:Go.Proofs.YtehgehanbnkdiaaGreatDoor.fill c l r t d x y j=x j:=by unfold Go.Proofs.YtehgehanbnkdiaaGreatDoor.fill;rw[if_pos ⟨a.1,a.2.1⟩,iH a.2.2]
  rw[this];exact m j
 .rcases GB i k hy b a with e|⟨e,_⟩;.rw[e];exact h y j hy b
  .rw[e];exact QN _
def xT.put{W H:Nat}{c:zzd}(h:xT W H c)(k:PAll W H c)(q:1<=W/\W<=400)(p:1<=H/\H<=400)(x y:Int)(a:BY)(wd f g b cx cy ca cb:Int)(l:UH a wd):xT W H (mT W H c x y a wd f g b cx cy ca cb):=by
 have e:=eY (W:=W) (H:=H) dg dg x y wd 1 cx cy ca cb;unfold mT ME;split
 .rename_i m;have d:=l m;have n:=e.lu;have o:=e.l0;refine h.fill k dg λj=>?_;unfold putX;split;.exact GI _ _ _
  .unfold OJ;split
   .rename_i i;split;.right;rw[i]at d;exact d
    .left;rfl
   .right;have:wd=1:=dg;rw[this]at d;exact d
 .exact h
def xT.fil{W H:Nat}{c:zzd}(h:xT W H c)(e:PAll W H c)(j:1<=W/\W<=400)(i:1<=H/\H<=400)(x y a b f g bd cx cy ca cb:Int):xT W H (oj W H c x y a b f g bd cx cy ca cb):=by have d:=eY (W:=W) (H:=H) dg dg x y a b cx cy ca cb;unfold oj;exact h.fill e (by have:=d.lu;have:=d.l0;omega) λ_=>GI _ _ _
