import Derived.Test.YtaanagpadfcmlaaGreatDoorQ18
import Derived.ProofKit
import Derived.OpenShut
import Derived.Lib.LaidTab
set_option linter.all false
set_option maxRecDepth 100000
set_option maxHeartbeats 16000000
namespace Go.Proofs.YtaanagpadfcmlaaGreatDoor
open Go.RowKit Go.Proofs.Tryz
theorem Be:(prog.globals[10]?).map (·.type)=some 332:=ns
theorem EI:prog.cellsOf 331=3:=ns
theorem Hi:prog.cellsOf 3=1:=ns
theorem LQ{H}:(Rows.laid_pane_glyph_spans:DataW H)=.agg (fX.map λs=>.agg [.lit (.int .i64 s.1),.lit (.int .i64 s.2.1),.lit (.int .i64 s.2.2)]):=rfl
theorem ON{α:Type}{l:List α}{k}{x}(h:(l.drop k).take 1=[x]):l[k]?=some x:=by have:=congrArg (·[0]?) h;grind
theorem Cr{W}{d}{sp}{held}{f}{e}{a b c}{p}(h:DataW.trod (λ_=>()) prog W d sp held f 331 e=some (.agg [.lit (.int .i64 a),.lit (.int .i64 b),.lit (.int .i64 c)],p)):
 e[0]?=some (Iq a)/\e[1]?=some (Iq b)/\e[2]?=some (Iq c):=by
 obtain⟨k,n,_,m,_,l,i⟩:=DataW.trod_struct underlying331 h;have j:k.length=3:=l;match k,j with
 |[o,q,r],_=>have g:=congrArg Prod.fst m;simp only[List.map_cons,List.map_nil,DataW.agg.injEq,List.cons.injEq,and_true]at g;obtain⟨s,t,u⟩:=g;have f0:DataW.trod (λ_=>()) prog W d sp held n 3 ((e.drop 0).take (prog.cellsOf 3))=some o:=i 0 _ rfl;have f1:DataW.trod (λ_=>()) prog W d sp held n 3 ((e.drop 1).take (prog.cellsOf 3))=some q:=i 1 _ rfl;have f2:DataW.trod (λ_=>()) prog W d sp held n 3 ((e.drop 2).take (prog.cellsOf 3))=some r:=i 2 _ rfl;rw[Hi]at f0 f1 f2;obtain⟨A,v,x,_⟩:=Eg underlying3 f0;obtain⟨B,h1,y,_⟩:=Eg underlying3 f1;obtain⟨C,w,z,_⟩:=Eg underlying3 f2;grind[ON]
theorem bN.below{w w'}(h:bN w)(e:Bt w w'):bN w':=by intro i hi;obtain⟨a,b,c⟩:=h i hi;have d:=jK w _ a;exact⟨(e.cell d).trans a,(e.cell (p:=(aj 10 (i*3+1))) d).trans b,(e.cell (p:=(aj 10 (i*3+2))) d).trans c⟩
theorem k6(r:Int)(w:World)(h:bN w)(b:Bool)(c:dO r=b):
 Cw 222 #[Iq r] w λe w'=>e=Rw (.bool b)/\w'=w:=by
 have i:=qH<|h;clear h;by_cases a:r=10
 ·have e:b=false:=by rw[<-c,ep];omega
  subst e;subst a;clear c;go_enter func222,ntmps222;go_wp2;go_ret;simp_all
 ·have g:(r !=10)=true:=by simp[a]
  obtain⟨k,d⟩:=ad (jF r);have G:Hid (Cw 224 #[Iq r] w λe w'=>e=Rw (Iq k)/\w'=w):=by show Calls _ _ _ _ _;rw[<-d];exact l' r w i
  have f:Hid (b=(k==0)):=by show _=_;rw[<-c,<-d,Ap,mU];simp[a]
  clear c d a;go_enter func222,ntmps222;go_wp2_with fail;refine G.mono ?_;rintro e j ⟨rfl,rfl⟩;go_wp2;go_ret;rw[f.out];simp_all
def keep(L:List Int)(k:Nat):List Int:=(L.take k).take 4
theorem xD L k(h:k<L.length)(a:k<4):keep L (k+1)=keep L k++[L[k]]:=by unfold keep;rw[List.take_take,List.take_take,Nat.min_eq_right dg,Nat.min_eq_right dg,gG h]
theorem tR L k(a:4<=k):keep L (k+1)=keep L k:=by grind[keep]
theorem kh L k(h:k<=L.length):(keep L k).length=min 4 k:=by grind[keep]
theorem FF(w:World)o b:((w.alloc o).alloc (.cells #[Iq b] 3)).ownsRow (w.heap.size+1) 3 1 (Sq (w.heap.size+1) 1 1) (1+0) ([b].map (Value.int .i64)):=by refine⟨rfl,.inr ⟨w.heap.size+1,1,#[Iq b],rfl,ae _,?_,dg,by unfold maxLen;omega,rfl,rfl⟩⟩;have:=heap_alloc_new (w.alloc o) (.cells #[Iq b] 3);simp_all
theorem LD:(prog.info? 3).map (λi=>(i.zero,i.size,i.bytes))=some (some (Iq 0),1,8):=ns
theorem E9(R:List Int)(b off d:Nat)(w:World)(c:R≠[])(i:b<w.heap.size)(f:∀j,j<R.length->w.cell? (aj b (off+j))=some (Iq (R[j]?.getD 0)))(a:R[0]?.getD 0=10):
 Cw 188 #[.slice (some (aj b off)) R.length d] w λe w'=>e=Rw (.tuple #[.agg #[.string ⟨#[10]⟩,Iq 0],Iq 1])/\Bt w w':=by
 have hp:=jI.2 c;have g:w.cell? (aj b off)=some (Iq 10):=by have:=f 0 hp;rw[a]at this;exact this
 have k:(0:Int)<(R.length:Int):=dg;have h:(w.alloc (.cells #[.string ⟨#[]⟩,Iq 0] 222)).cell? (aj b off)=some (Iq 10):=(((af w.heap.size w).alloc (ae _) _).cell (p:=(aj b off)) i).trans g;clear f a c;go_enter func188,ntmps188;go_wp2;exact bodyPost_ret (v:=.tuple #[.agg #[.string ⟨#[10]⟩,Iq 0],Iq 1]) (by simp[results,Tryz.results188,go_sem]) rfl ⟨rfl,(af _ _).alloc (ae _) _⟩
theorem tL(R:List Int)(r:Int)(b off zk:Nat)(w:World)(ht:bN w)(zc:R≠[])(zw:R.length<=17592186044416)(hb:b<w.heap.size)(hc:∀j,j<R.length->w.cell? (aj b (off+j))=some (Iq (R[j]?.getD 0)))(hr:R[0]?.getD 0=r)(o:Nat)(c:Int)(L:List Int)(hL:R.drop o=L)(Y:r≠10)(za:o=0/\dO r=true/\c=32\/o=1/\dO r=false/\c=r)(n:Nat)(hn:n=o+(sK L).length)(T:List UInt8)(hT:T=enc (c::(sK L).take 4))(W:Int)(hW:W=jF c):
 Cw 188 #[.slice (some (aj b off)) R.length zk] w λe w'=>e=Rw (.tuple #[.agg #[.string ⟨T.toArray⟩,Iq W],Iq n])/\Bt w w':=by
 obtain⟨i0,hi,zr,zt,zu⟩:=info_parts LD;have hp:=jI.2 zc;have HT:=qH<|ht;have zA:o<=1:=by rcases za with⟨h,_⟩|⟨h,_⟩<;>omega
 have zm:L.length+o=R.length:=by rw[<-hL,cL];omega
 have zy:L.length+o<=R.length:=dg;have zz:R.length<=L.length+o:=dg;have HC:Hid (∀k (Q:k<L.length),w.cell? (aj b (off+(o+k)))=some (Iq L[k])):=by
  intro k Q;have e:L[k]=R[o+k]' dg:=by subst hL;first|grind|(rw[List.getElem_drop])
  rw[hc (o+k) dg,dI dg,e];rfl
 have HN:=qH<|hn;have V:=qH<|hT;have HW:=qH<|hW;have zB:(0:Int)<(R.length:Int):=dg
 have zv:(r==10)=false:=by simp[Y]
 have M:Bt w (w.alloc (.cells #[.string ⟨#[]⟩,Iq 0] 222)):=(af _ _).alloc (ae _) _;have h0:(w.alloc (.cells #[.string ⟨#[]⟩,Iq 0] 222)).cell? (aj b off)=some (Iq r):=(M.cell (p:=(aj b off)) hb).trans rd;have zj:=qH<|ht.below M;clear hc hn hT hW ht Y hr zc M hL zm;rcases za with⟨ho,hm,hcc⟩|⟨ho,hm,hcc⟩;all_goals
  have HM:=qH<|hm;have HO:=qH<|ho;have F:=qH<|hcc;clear hm ho hcc;go_enter func188,ntmps188;go_wp2_with(go_at_call 222;refine(k6 r _ zj _ HM).mono ?_;rintro e w' ⟨rfl,rfl⟩);go_loopw[5,6] (λq v wr=>∃k:Nat,k<=L.length/\q=Iq (o+k:Nat)/\wr.ownsRow (w.heap.size+1) 3 1 v (1+min 4 k) ((c::keep L k).map (Value.int .i64))/\wr.heap[w.heap.size]?=some (.cells #[.string ⟨#[]⟩,Iq 0] 222 (0,0))/\Bt w wr/\Hid (∀j (N:j<L.length),j<k->dO (L[j])=true)) (λq _ _=>R.length-(intOf q).toNat);case atStart=>refine⟨0,dg,by rw[HO.out];rfl,by rw[F.out];exact FF w _ _,?_,((af _ _).alloc (ae _) _).alloc rn _,λj N h=>dg⟩;rw[cK _ _ _ rn];exact heap_alloc_new w _
  case round=>
   obtain⟨k,Q,rfl,d,f,i,s⟩:=hrel;have C:=(aD.1 f).1;have l:=qH<|HT.below i;by_cases O:k<L.length
   ·obtain⟨x,hx⟩:=ad (L[k]);have zo:wr.cell? (aj b (off+(o+k)))=some (Iq x):=(i.cell (p:=(aj b (off+(o+k)))) hb).trans (by have:=HC k O;grind);have X:=qH<|hx;have zb:((o+k:Nat):Int)<(R.length:Int):=dg
    clear hx;by_cases D:dO x=true
    ·have t:=qH<|D;clear D;have E:Hid (∀j (N:j<L.length),j<k+1->dO (L[j])=true):=by
      intro j N h;by_cases ej:j=k;·subst ej;rw[X.out];exact t
      ·exact s j N dg
     by_cases h4:k<4
     ·have B:min 4 k=k:=dg
      rw[B]at d;have zh:Hid (keep L (k+1)=keep L k++[x]):=by show _=_;rw[xD _ _ O h4,X.out]
      obtain⟨g,J,rfl⟩:∃g J,u6=Sq g (1+k) J:=by rcases d.2 with⟨_,h⟩|⟨g,J,zl,h,_⟩;all_goals grind
      have zx:((1+k:Nat):Int)<=4:=dg;clear s X;go_wp2_with(first
       |(go_at_call 222;refine(k6 x _ l _ t).mono ?_;rintro e w' ⟨rfl,rfl⟩)
       |(at_builtin;refine wpList_append_own _ rfl _ _ 55 rfl (w.heap.size+1) 3 i0 (Iq 0) 1 8 underlying55 hi zr zt zu rfl (by decide) _ _ _ rfl (d.alloc _) _ 1 1 [Iq x] rfl rfl ?c1k3 ?c2k3 ?c3k3 ?c4k3 ?c5k3 ?_));try case c1k3=>exact cell_one_new _ _ _
      case c2k3=>first|(intro u hu;simp at hu;subst hu;rfl)|rfl|(simp;done)
      case c3k3=>first|(unfold maxLen;omega)|omega
      case c4k3=>omega
      case c5k3=>first|omega|(rw[au];omega)
      intro v' w1 zq hg _;have ze:=λq hq=>(d.lt q hq).1;have zn:=(i.alloc dg _).grown hg (by rw[au];omega) (λq hq=>rd);have P:w1.heap[w.heap.size]?=some (.cells #[.string ⟨#[]⟩,Iq 0] 222 (0,0)):=by rw[hg.block w.heap.size (by rw[au];omega) (λe=>rd),cK _ _ _ dg];exact f
      clear hg ze d i f l zo;go_wp2;go_roundw;case rel=>refine⟨k+1,dg,by go_num,?_,P,zn,E⟩;rw[zh.out,<-List.cons_append,kQ,show 1+min 4 (k+1)=1+k+1 by omega];grind
      case measure=>simp[intOf];omega
     ·have B:min 4 k=4:=dg
      have zi:Hid (keep L (k+1)=keep L k):=tR _ _ dg;rw[B]at d;obtain⟨g,J,rfl⟩:∃g J,u6=Sq g (1+4) J:=by rcases d.2 with⟨_,h⟩|⟨g,J,zl,h,_⟩;all_goals grind
      clear s X;go_wp2_with(go_at_call 222;refine(k6 x _ l _ t).mono ?_;rintro e w' ⟨rfl,rfl⟩);go_roundw;case rel=>refine⟨k+1,dg,by go_num,?_,f,i,E⟩;rw[zi.out,show 1+min 4 (k+1)=1+4 by omega];omega
      case measure=>simp[intOf];omega
    ·have t:Hid (dO x=false):=by show _=_;simpa using D
     have y:Hid (sK L=L.take k):=eG dO _ k Q s (λN=>by rw[X.out];exact t);have H:Hid (n=o+k):=by show _=_;rw[HN.out,y.out,b_];omega
     have I:Hid (enc (c::keep L k)=T):=by show _=_;rw[V.out,y.out];rfl
     have Z:=kY d;have U:=qH<|Z;have A:=kh L k Q;have G:Hid ((c::keep L k).length<=17592186044416):=by show _<=_;rw[dP,A];omega
     clear D s Z d A;go_wp2_with(go_at_call 222;refine(k6 x _ l _ t).mono ?_;rintro e w' ⟨rfl,rfl⟩);refine(oO _ _ _ U G).mono ?_;rintro e m ⟨rfl,z⟩;rw[I.out];have a:m.heap[w.heap.size]?=some (.cells #[.string ⟨#[]⟩,Iq 0] 222 (0,0)):=by rw[z.block _ C];exact f
     have S:Hid (Cw 224 #[Iq c] m λe w'=>e=Rw (Iq W)/\w'=m):=by show Calls _ _ _ _ _;rw[HW.out];exact l' c m (l.below z)
     rw[F.out]at S;have q0:m.cell? (aj w.heap.size 0)=some (.string ⟨#[]⟩):=by rw[cell_of_row _ _ _ _ _ _ a];rfl
     have q1:m.cell? (aj w.heap.size 1)=some (Iq 0):=by rw[cell_of_row _ _ _ _ _ _ a];rfl
     have f0:=frozen_of_row m w.heap.size 0 _ _ a;have f1:=frozen_of_row m w.heap.size 1 _ _ a;have K:=i.trans (z.mono dg);have zg:=zz007 C z.size;clear z f i U l;go_wp2_with fail;refine S.mono ?_;rintro e w3 ⟨rfl,rfl⟩;go_wp2;rw[H.out];refine bodyPost_ret (v:=.tuple #[.agg #[.string ⟨T.toArray⟩,Iq W],Iq ((o+k:Nat):Int)]) ?_ rfl ⟨rn,(K.setCell (p:=(aj w.heap.size 0)) (ae _) _).setCell (p:=(aj w.heap.size 1)) (ae _) _⟩;simp[results,Tryz.results188,go_sem,q0,q1]
   ·have zb:¬((o+k:Nat):Int)<(R.length:Int):=dg
    have y:Hid (sK L=L.take k):=eG dO _ k Q s (λN=>absurd N O);have H:Hid (n=o+k):=by show _=_;rw[HN.out,y.out,b_];omega
    have I:Hid (enc (c::keep L k)=T):=by show _=_;rw[V.out,y.out];rfl
    have Z:=kY d;have U:=qH<|Z;have A:=kh L k Q;have G:Hid ((c::keep L k).length<=17592186044416):=by show _<=_;rw[dP,A];omega
    clear s Z d A;go_wp2_with fail;refine(oO _ _ _ U G).mono ?_;rintro e m ⟨rfl,z⟩;rw[I.out];have a:m.heap[w.heap.size]?=some (.cells #[.string ⟨#[]⟩,Iq 0] 222 (0,0)):=by rw[z.block _ C];exact f
    have S:Hid (Cw 224 #[Iq c] m λe w'=>e=Rw (Iq W)/\w'=m):=by show Calls _ _ _ _ _;rw[HW.out];exact l' c m (l.below z)
    rw[F.out]at S;have q0:m.cell? (aj w.heap.size 0)=some (.string ⟨#[]⟩):=by rw[cell_of_row _ _ _ _ _ _ a];rfl
    have q1:m.cell? (aj w.heap.size 1)=some (Iq 0):=by rw[cell_of_row _ _ _ _ _ _ a];rfl
    have f0:=frozen_of_row m w.heap.size 0 _ _ a;have f1:=frozen_of_row m w.heap.size 1 _ _ a;have K:=i.trans (z.mono dg);have zg:=zz007 C z.size;clear z f i U l;go_wp2_with fail;refine S.mono ?_;rintro e w3 ⟨rfl,rfl⟩;go_wp2;rw[H.out];refine bodyPost_ret (v:=.tuple #[.agg #[.string ⟨T.toArray⟩,Iq W],Iq ((o+k:Nat):Int)]) ?_ rfl ⟨rn,(K.setCell (p:=(aj w.heap.size 0)) (ae _) _).setCell (p:=(aj w.heap.size 1)) (ae _) _⟩;simp[results,Tryz.results188,go_sem,q0,q1]
theorem E8 R v w(o:bN w)(c:R≠[])(f:R.length<=17592186044416)(h:AK w v R):
 Cw 188 #[v] w λe w'=>e=Rw (.tuple #[.agg #[.string ⟨(ee R).toArray⟩,Iq (ef R)],Iq (fK R)])/\Bt w w':=by
 obtain⟨a,g,rfl,hh⟩:=h;obtain⟨b,off,rfl,m,n⟩:=hh.resolve_left c;match R,c with
 |r::t,c=>
  by_cases d:r=10;·grind[E9,ee,ef,fK]
  ·by_cases j:dO r=true
   ·have i:lz (r::t)=0:=by simp only[lz,if_pos j]
    have k:dW (r::t)=32:=by simp only[dW,if_pos j]
    have l:dc (r::t)=sK (r::t):=by unfold dc;rw[i];rfl
    simp only[ee,ef,fK,if_neg d,i,k,l];exact tL (r::t) r b off g w o c f m n rfl 0 32 (r::t) rfl d (.inl ⟨rfl,j,rfl⟩) _ rfl _ rfl _ rfl
   ·have i:lz (r::t)=1:=by simp only[lz,if_neg j]
    have k:dW (r::t)=r:=by simp only[dW,if_neg j]
    have l:dc (r::t)=sK t:=by unfold dc;rw[i];rfl
    simp only[ee,ef,fK,if_neg d,i,k,l];exact tL (r::t) r b off g w o c f m n rfl 1 r t rfl d (.inr ⟨rfl,rd,rfl⟩) _ rfl _ rfl _ rfl
def dB(l:List (List UInt8×Int)):List Value:=l.flatMap λc=>[.string ⟨c.1.toArray⟩,Iq c.2]
theorem eU a b:dB (a++b)=dB a++dB b:=by simp[dB]
theorem xx:(prog.info? 222).map (λi=>(i.zero,i.size,i.bytes))=some (some (.agg #[.string ⟨#[]⟩,Iq 0]),2,24):=ns
def Oz:Value->Nat
 |.slice _ n _=>n
 |_=>0
def Gw(w:World)(v:Value)(zs:List Int):Prop:=
 ∃a cap,v=.slice a zs.length cap/\zs.length<=cap/\cap<=maxLen/\(zs=[]\/∃b off,a=some (aj b off)/\b<w.heap.size/\∀j,j<zs.length->w.cell? (aj b (off+j))=some (Iq (zs[j]?.getD 0)))
theorem intsC_own{w}{B n}{v}{b}(h:w.ownsRow B 3 1 v n (b.map (Value.int .i64))):Gw w v b:=by
 have d:b.length=n:=by have:=h.1;simpa using this
 obtain⟨a,f,e,hh⟩:=kY h;rcases h.2 with⟨rfl,rfl⟩|⟨g,c,i,rfl,_,l,h1,j,_⟩;·have k:=jg.1 d;subst k;exact⟨none,0,rfl,ae _,dg,.inl rfl⟩
 ·simp only[Am]at e;obtain⟨rfl,_,rfl⟩:=e;exact⟨_,_,by rw[d],dg,j,hh⟩
theorem fk{w w'}{B n size}{e}{v}{j}(h:w.ownsRow B e size v n j)(k:Bt w w'):w'.ownsRow B e size v n j:=by
 refine⟨h.1,?_⟩;rcases h.2 with l|⟨g,f,i,a,b,c,d⟩;·grind
 ·exact .inr ⟨g,f,i,a,b,by rw[k.block g (aD.1 c).1];exact c,d⟩
theorem intsC_drop{w}{b off a n}{c:List Int}(i:n<=c.length)(d:c.length<=a)(f:a<=maxLen)(g:b<w.heap.size)(h:∀j,j<c.length->w.cell? (aj b (off+j))=some (Iq (c[j]?.getD 0))):
 Gw w (.slice (if a=n then some (aj b off)else some (aj b (off+n))) (c.length-n) (a-n)) (c.drop n):=by
 refine⟨_,_,by rw[cL],rd,dg,?_⟩;by_cases e:a=n;·grind
 ·right;rw[if_neg e];grind
theorem ga(s:ByteArray)(w:World)(ht:bN w)(hs:s.size<=1099511627776):
 Cw 135 #[.string s] w λe w'=>∃v,e=Rw v/\w'.ownsRow w.heap.size 222 2 v (aG (ak s.data.toList)).length (dB (aG (ak s.data.toList)))/\Bt w w':=by
 obtain⟨i0,hi,Q,S,U⟩:=info_parts xx;have HT:=qH<|ht;clear ht;have Y:=aX s.data.toList;have C:s.data.toList.length=s.size:=by rw[dZ];rfl
 rw[C]at Y;go_enter func135,ntmps135;go_wp2_with fail;refine(xd s _ dg).mono ?_;rintro e G ⟨v1,rfl,V,J⟩;obtain⟨R,o⟩:=ad (ak s.data.toList);rw[o]at V Y;have H:=qH<|o;have I1:=qH<|intsC_own V;have I:=qH<|HT.below J;clear V o C;have A:=J.size;go_wp2;go_loopw[3,4] (λv rest wr=>∃(c:List Int) (d:List (List UInt8×Int)),Hid (Gw G rest c)/\wr.ownsRow G.heap.size 222 2 v d.length (dB d)/\Bt G wr/\Hid (d++aG c=aG R)/\d.length+c.length<=R.length) (λ_ rest _=>Oz rest);case atStart=>exact⟨R,[],I1,eO _ _ _ _,af _ _,rfl,rn⟩
 case round=>
  obtain⟨c,d,L,k,i,h,zb⟩:=hrel;obtain⟨a,t,rfl,x,y,hh⟩:=L.out;by_cases f:c=[];·subst f;have e:=h.out;rw[gQ,jH]at e;have HE:=qH<|e;clear e hh L h;go_wp2;go_ret;rw[H.out,<-HE.out];exact⟨_,rfl,gL k A,J.trans (i.mono A)⟩
  ·have hp:=jI.2 f;have ze:(0:Int)<(c.length:Int):=dg
   obtain⟨b,off,rfl,Z,hc⟩:=hh.resolve_left f;have P:=i.size;have F:=qH<|
    E8 c _ wr (I.below i) f dg ⟨_,t,rfl,.inr ⟨b,off,rfl,dg,λj hj=>(i.cell (p:=(aj b (off+j))) Z).trans (hc j hj)⟩⟩;have z:=Db c;have O:=ed f;have X:Hid ((d++[(ee c,ef c)])++aG (c.drop (fK c))=aG R):=by show _=_;rw[<-h.out,dj f];simp
   obtain⟨T,M⟩:=ad (ee c);obtain⟨W,N⟩:=ad (ef c);obtain⟨n,E⟩:=ad (fK c);rw[M,N,E]at F;rw[M,N,E]at X;rw[E]at z O;have HC:=qH<|hc;unfold maxLen at y;clear M N E h L hh hc f;go_wp2_with fail;refine F.mono ?_;rintro e w2 ⟨rfl,D⟩;have zg:=D.size;have g:=fk k D;have m:=i.trans (D.mono P);clear D F k i;go_wp2_with(at_builtin;refine wpList_append_own _ rfl _ _ 220 rfl G.heap.size 222 i0 (.agg #[.string ⟨#[]⟩,Iq 0]) 2 24 underlying220 hi Q S U rfl (by decide) _ _ _ rfl ((g.alloc _).alloc _) _ 1 1 [.string ⟨T.toArray⟩,Iq W] rfl rfl ?c1 ?c2 ?c3 ?c4 ?c5 ?_);case c1=>have:=cell_two_new (w2.alloc (.cells #[.string ⟨T.toArray⟩,Iq W] 222)) (.string ⟨T.toArray⟩) (Iq W) 222;simp_all
   case c2=>intro u hu;simp at hu;rcases hu with rfl|rfl<;>rfl
   case c3=>unfold maxLen;omega
   case c4=>omega
   case c5=>rw[au,au];omega
   intro v' w3 r hg _;have l:=λq hq=>(g.lt q hq).1;have B:=m.size;have K:=((m.alloc B _).alloc (by rw[au];omega) _).grown hg (by rw[au,au];omega) l;clear hg l g m;have zc:(n:Int)<=(c.length:Int):=dg
   have za:(c.length:Int)<=(t:Int):=dg;have HD:=qH<|intsC_drop z x (by unfold maxLen;omega) Z HC;go_wp2;go_roundw;case rel=>refine⟨c.drop n,d++[(T,W)],HD,?_,K,X,rd⟩;rw[aU,eU];exact r
   case measure=>show c.length-n<c.length;omega
