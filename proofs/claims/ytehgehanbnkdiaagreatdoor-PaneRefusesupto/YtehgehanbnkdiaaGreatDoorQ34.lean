import Derived.Test.YtehgehanbnkdiaaGreatDoorQ17
import Derived.ProofKit
import Derived.OpenShut
import Derived.Lib.LaidTab
set_option linter.all false
set_option maxRecDepth 100000
set_option maxHeartbeats 16000000
namespace Go.Proofs.YtehgehanbnkdiaaGreatDoor
open Go.RowKit Go.Proofs.Tryz
def yo:(prog.globals[10]?).map (·.type)=some 430:=pt
def Dq:prog.cellsOf 429=3:=pt
def Gb:prog.cellsOf 3=1:=pt
def L6{H}:(Rows.laid_pane_glyph_spans:DataW H)=.agg (eZ.map λs=>.agg [.lit (.int .i64 s.1),.lit (.int .i64 s.2.1),.lit (.int .i64 s.2.2)]):=rfl
theorem Pu{α:Type}{l:List α}{k}{x}(h:(l.drop k).take 1=[x]):l[k]?=some x:=by have:=congrArg (·[0]?) h;grind
def Ao{W}{d}{sp}{held}{f}{e}{a b c}{p}(h:DataW.trod (λ_=>()) prog W d sp held f 429 e=some (.agg [.lit (.int .i64 a),.lit (.int .i64 b),.lit (.int .i64 c)],p)):
 e[0]?=some (Iq a)/\e[1]?=some (Iq b)/\e[2]?=some (Iq c):=by
 obtain⟨k,n,_,m,_,l,i⟩:=DataW.trod_struct underlying429 h;have j:k.length=3:=l;match k,j with
 |[o,q,r],_=>have g:=congrArg Prod.fst m;simp only[C5,List.map_nil,DataW.agg.injEq,List.cons.injEq,and_true]at g;obtain⟨s,t,u⟩:=g;have f0:DataW.trod (λ_=>()) prog W d sp held n 3 ((e.drop 0).take (prog.cellsOf 3))=some o:=i 0 _ rfl;have f1:DataW.trod (λ_=>()) prog W d sp held n 3 ((e.drop 1).take (prog.cellsOf 3))=some q:=i 1 _ rfl;have f2:DataW.trod (λ_=>()) prog W d sp held n 3 ((e.drop 2).take (prog.cellsOf 3))=some r:=i 2 _ rfl;rw[Gb]at f0 f1 f2;obtain⟨B,v,y,_⟩:=C8 underlying3 f0;obtain⟨C,w,z,_⟩:=C8 underlying3 f1;obtain⟨D,x,A,_⟩:=C8 underlying3 f2;grind[Pu]
def aY.below{w w'}(h:aY w)(e:Bq w w'):aY w':=by intro i hi;obtain⟨a,b,c⟩:=h i hi;have d:=nR w _ a;exact⟨(e.cell d).trans a,(e.cell (p:=(aq 10 (i*3+1))) d).trans b,(e.cell (p:=(aq 10 (i*3+2))) d).trans c⟩
def jM(r:Int)(w:AT)(h:aY w)(b:Bool)(c:fk r=b):
 Cw 319 #[Iq r] w λe w'=>e=Rw (.bool b)/\w'=w:=by
 have i:=qH<|h;clear h;by_cases a:r=10
 .have e:b=false:=by rw[<-c,pE];omega
  subst e;subst a;clear c;go_enter func319,ntmps319;go_wp2;go_ret;simp_all
 .have g:(r !=10)=true:=by simp[a]
  obtain⟨k,d⟩:=af (mY r);have G:Hid (Cw 321 #[Iq r] w λe w'=>e=Rw (Iq k)/\w'=w):=by show Calls _ _ _ _ _;rw[<-d];exact kW r w i
  have f:Hid (b=(k==0)):=qH<|by rw[<-c,<-d,sM,vu];simp[a]
  clear c d a;go_enter func319,ntmps319;go_wp2_with fail;refine Ut G ?_;rintro j rfl;go_wp2;go_ret;rw[f.out];simp_all
def keep(L:zzc)(k:Nat):List Int:=(L.take k).take 4
def Hz L k(h:k<L.length)(a:k<4):keep L (k+1)=keep L k++[L[k]]:=by unfold keep;rw[List.take_take,List.take_take,Nat.min_eq_right dg,Nat.min_eq_right dg,gx h]
def D9 L k(a:4<=k):keep L (k+1)=keep L k:=by grind[keep]
def nt L k(h:k<=L.length):(keep L k).length=min 4 k:=by grind[keep]
def Em(w:AT)o b:((w.alloc o).alloc (.cells #[Iq b] 3)).ownsRow (w.heap.size+1) 3 1 (Sq (w.heap.size+1) 1 1) (1+0) ([b].map (Value.int .i64)):=by refine⟨rfl,.inr ⟨w.heap.size+1,1,#[Iq b],rfl,LE,?_,dg,by unfold maxLen;omega,rfl,rfl⟩⟩;have:=heap_alloc_new (w.alloc o) (.cells #[Iq b] 3);simp_all
def Lt:(prog.info? 3).map (λi=>(i.zero,i.size,i.bytes))=some (some (Iq 0),1,8):=pt
theorem DM(R:zzc)(b off d:Nat)(w:AT)(c:R≠[])(i:b<w.heap.size)(f:∀j,j<R.length->w.cell? (aq b (off+j))=some (Iq (R[j]?.getD 0)))(a:R[0]?.getD 0=10):
 Cw 286 #[.slice (some (aq b off)) R.length d] w λe w'=>e=Rw (.tuple #[.agg #[.string ⟨#[10]⟩,Iq 0],Iq 1])/\Bq w w':=by
 have k:=iQ.2 c;have g:w.cell? (aq b off)=some (Iq 10):=by have:=f 0 k;rw[a]at this;exact this
 have l:(0:Int)<(R.length:Int):=dg;have h:(w.alloc (.cells #[.string ⟨#[]⟩,Iq 0] 337)).cell? (aq b off)=some (Iq 10):=(((ac w.heap.size w).alloc LE _).cell (p:=(aq b off)) i).trans g;clear f a c;go_enter func286,ntmps286;go_wp2;exact bodyPost_ret (v:=.tuple #[.agg #[.string ⟨#[10]⟩,Iq 0],Iq 1]) (by simp[results,Tryz.results286,go_sem]) rfl ⟨rfl,No⟩
def rQ(R:zzc)(r:Int)(b off zn:Nat)(w:AT)(ht:aY w)(zh:R≠[])(zA:R.length<=17592186044416)(hb:b<w.heap.size)(hc:∀j,j<R.length->w.cell? (aq b (off+j))=some (Iq (R[j]?.getD 0)))(hr:R[0]?.getD 0=r)(o:Nat)(c:Int)(L:zzc)(hL:R.drop o=L)(Y:r≠10)(ze:o=0/\fk r=true/\c=32\/o=1/\fk r=false/\c=r)(n:Nat)(hn:n=o+(BG L).length)(T:zzf)(hT:T=enc (c::(BG L).take 4))(W:Int)(hW:W=mY c):
 Cw 286 #[.slice (some (aq b off)) R.length zn] w λe w'=>e=Rw (.tuple #[.agg #[.string ⟨T.toArray⟩,Iq W],Iq n])/\Bq w w':=by
 obtain⟨i0,hi,zv,zw,zx⟩:=info_parts Lt;have hp:=iQ.2 zh;have HT:=qH<|ht;have zE:o<=1:=by rcases ze with⟨h,_⟩|⟨h,_⟩<;>omega
 have zq:L.length+o=R.length:=by rw[<-hL,dq];omega
 have zC:L.length+o<=R.length:=dg;have zD:R.length<=L.length+o:=dg;have HC:Hid (∀k (Q:k<L.length),w.cell? (aq b (off+(o+k)))=some (Iq L[k])):=by
  intro k Q;have e:L[k]=R[o+k]' dg:=by subst hL;first|grind|(rw[List.getElem_drop])
  rw[hc (o+k) dg,da dg,e];rfl
 have HN:=qH<|hn;have V:=qH<|hT;have HW:=qH<|hW;have zF:(0:Int)<(R.length:Int):=dg;have zy:(r==10)=false:=by simp[Y]
 have M:Bq w (w.alloc (.cells #[.string ⟨#[]⟩,Iq 0] 337)):=No;have h0:(w.alloc (.cells #[.string ⟨#[]⟩,Iq 0] 337)).cell? (aq b off)=some (Iq r):=(M.cell (p:=(aq b off)) hb).trans rn;have zm:=qH<|ht.below M;clear hc hn hT hW ht Y hr zh M hL zq;rcases ze with⟨ho,hm,hcc⟩|⟨ho,hm,hcc⟩;all_goals
  have HM:=qH<|hm;have HO:=qH<|ho;have F:=qH<|hcc;clear hm ho hcc;go_enter func286,ntmps286;go_wp2_with(go_at_call 319;refine Ut (jM r _ zm _ HM) ?_;rintro w' rfl);go_loopw[5,6] (λq v wr=>∃k:Nat,k<=L.length/\q=Iq (o+k:Nat)/\wr.ownsRow (w.heap.size+1) 3 1 v (1+min 4 k) ((c::keep L k).map (Value.int .i64))/\wr.heap[w.heap.size]?=some (.cells #[.string ⟨#[]⟩,Iq 0] 337 (0,0))/\Bq w wr/\Hid (∀j (N:j<L.length),j<k->fk (L[j])=true)) (λq _ _=>R.length-(intOf q).toNat);.refine⟨0,dg,by rw[HO.out];rfl,by rw[F.out];exact Em w _ _,?_,No.alloc At _,λj N h=>dg⟩;rw[bG _ _ _ At];exact heap_alloc_new w _
  obtain⟨k,Q,rfl,d,f,i,s⟩:=hrel;have C:=(aj.1 f).1;have l:=qH<|HT.below i;by_cases O:k<L.length
  .obtain⟨x,hx⟩:=af (L[k]);have zt:wr.cell? (aq b (off+(o+k)))=some (Iq x):=(i.cell (p:=(aq b (off+(o+k)))) hb).trans (by have:=HC k O;grind);have X:=qH<|hx;have zg:((o+k:Nat):Int)<(R.length:Int):=dg;clear hx;by_cases D:fk x=true
   .have t:=qH<|D;clear D;have E:Hid (∀j (N:j<L.length),j<k+1->fk (L[j])=true):=by
     intro j N h;by_cases ej:j=k;.subst ej;rw[X.out];exact t
     .exact s j N dg
    by_cases h4:k<4
    .have B:min 4 k=k:=dg;rw[B]at d;have zk:Hid (keep L (k+1)=keep L k++[x]):=qH<|by rw[Hz _ _ O h4,X.out]
     obtain⟨g,J,rfl⟩:∃g J,u6=Sq g (1+k) J:=by rcases d.2 with⟨_,h⟩|⟨g,J,zo,h,_⟩;all_goals grind
     have zB:((1+k:Nat):Int)<=4:=dg;clear s X;go_wp2_with(first
      |(go_at_call 319;refine Ut (jM x _ l _ t) ?_;rintro w' rfl)
      |(at_builtin;refine wpList_append_own _ rfl _ _ 26 rfl (w.heap.size+1) 3 i0 (Iq 0) 1 8 underlying26 hi zv zw zx rfl (by decide) _ _ _ rfl (d.alloc _) _ 1 1 [Iq x] rfl rfl ?c1k3 ?c2k3 ?c3k3 ?c4k3 ?c5k3 ?_));try case c1k3=>exact cell_one_new _ _ _
     case c2k3=>first|(intro u hu;simp at hu;subst hu;rfl)|rfl|(simp;done)
     case c3k3=>first|(unfold maxLen;omega)|omega
     case c4k3=>omega
     case c5k3=>first|omega|(rw[ai];omega)
     intro v' w1 zu hg _;have zi:=λq hq=>(d.lt q hq).1;have zr:=(i.alloc dg _).grown hg (by rw[ai];omega) (λq hq=>rn);have P:w1.heap[w.heap.size]?=some (.cells #[.string ⟨#[]⟩,Iq 0] 337 (0,0)):=by rw[hg.block w.heap.size (by rw[ai];omega) (λe=>rn),bG _ _ _ dg];exact f
     clear hg zi d i f l zt;go_wp2;go_roundw;.refine⟨k+1,dg,by go_num,?_,P,zr,E⟩;rw[zk.out,<-List.cons_append,mi,show 1+min 4 (k+1)=1+k+1 by omega];grind
     .simp[intOf];omega
    .have B:min 4 k=4:=dg;have zl:Hid (keep L (k+1)=keep L k):=D9 _ _ dg;rw[B]at d;obtain⟨g,J,rfl⟩:∃g J,u6=Sq g (1+4) J:=by rcases d.2 with⟨_,h⟩|⟨g,J,zo,h,_⟩;all_goals grind
     clear s X;go_wp2_with(go_at_call 319;refine Ut (jM x _ l _ t) ?_;rintro w' rfl);go_roundw;.refine⟨k+1,dg,by go_num,?_,f,i,E⟩;rw[zl.out,show 1+min 4 (k+1)=1+4 by omega];omega
     .simp[intOf];omega
   .have t:Hid (fk x=false):=qH<|by simpa using D
    have y:Hid (BG L=L.take k):=jw fk _ k Q s (λN=>by rw[X.out];exact t);have H:Hid (n=o+k):=qH<|by rw[HN.out,y.out,cL];omega
    have I:Hid (enc (c::keep L k)=T):=qH<|by rw[V.out,y.out];rfl
    have Z:=mH d;have U:=qH<|Z;have A:=nt L k Q;have G:Hid ((c::keep L k).length<=17592186044416):=by show _<=_;rw[cV,A];omega
    clear D s Z d A;go_wp2_with(go_at_call 319;refine Ut (jM x _ l _ t) ?_;rintro w' rfl);refine Ut (nh _ _ _ U G) ?_;rintro m z;rw[I.out];have a:m.heap[w.heap.size]?=some (.cells #[.string ⟨#[]⟩,Iq 0] 337 (0,0)):=by rw[z.block _ C];exact f
    have S:Hid (Cw 321 #[Iq c] m λe w'=>e=Rw (Iq W)/\w'=m):=by show Calls _ _ _ _ _;rw[HW.out];exact kW c m (l.below z)
    rw[F.out]at S;have q0:m.cell? (aq w.heap.size 0)=some (.string ⟨#[]⟩):=by rw[cell_of_row _ _ _ _ _ _ a];rfl
    have q1:m.cell? (aq w.heap.size 1)=some (Iq 0):=by rw[cell_of_row _ _ _ _ _ _ a];rfl
    have f0:=frozen_of_row m w.heap.size 0 _ _ a;have f1:=frozen_of_row m w.heap.size 1 _ _ a;have K:=i.trans (z.mono dg);have zj:=zz006 C z.size;clear z f i U l;go_wp2_with fail;refine Ut S ?_;rintro w3 rfl;go_wp2;rw[H.out];refine bodyPost_ret (v:=.tuple #[.agg #[.string ⟨T.toArray⟩,Iq W],Iq ((o+k:Nat):Int)]) ?_ rfl ⟨At,(K.setCell (p:=(aq w.heap.size 0)) LE _).setCell (p:=(aq w.heap.size 1)) LE _⟩;simp[results,Tryz.results286,go_sem,q0,q1]
  .have zg:¬((o+k:Nat):Int)<(R.length:Int):=dg;have y:Hid (BG L=L.take k):=jw fk _ k Q s (λN=>absurd N O);have H:Hid (n=o+k):=qH<|by rw[HN.out,y.out,cL];omega
   have I:Hid (enc (c::keep L k)=T):=qH<|by rw[V.out,y.out];rfl
   have Z:=mH d;have U:=qH<|Z;have A:=nt L k Q;have G:Hid ((c::keep L k).length<=17592186044416):=by show _<=_;rw[cV,A];omega
   clear s Z d A;go_wp2_with fail;refine Ut (nh _ _ _ U G) ?_;rintro m z;rw[I.out];have a:m.heap[w.heap.size]?=some (.cells #[.string ⟨#[]⟩,Iq 0] 337 (0,0)):=by rw[z.block _ C];exact f
   have S:Hid (Cw 321 #[Iq c] m λe w'=>e=Rw (Iq W)/\w'=m):=by show Calls _ _ _ _ _;rw[HW.out];exact kW c m (l.below z)
   rw[F.out]at S;have q0:m.cell? (aq w.heap.size 0)=some (.string ⟨#[]⟩):=by rw[cell_of_row _ _ _ _ _ _ a];rfl
   have q1:m.cell? (aq w.heap.size 1)=some (Iq 0):=by rw[cell_of_row _ _ _ _ _ _ a];rfl
   have f0:=frozen_of_row m w.heap.size 0 _ _ a;have f1:=frozen_of_row m w.heap.size 1 _ _ a;have K:=i.trans (z.mono dg);have zj:=zz006 C z.size;clear z f i U l;go_wp2_with fail;refine Ut S ?_;rintro w3 rfl;go_wp2;rw[H.out];refine bodyPost_ret (v:=.tuple #[.agg #[.string ⟨T.toArray⟩,Iq W],Iq ((o+k:Nat):Int)]) ?_ rfl ⟨At,(K.setCell (p:=(aq w.heap.size 0)) LE _).setCell (p:=(aq w.heap.size 1)) LE _⟩;simp[results,Tryz.results286,go_sem,q0,q1]
def DK R v w(o:aY w)(c:R≠[])(f:R.length<=17592186044416)(h:oO w v R):
 Cw 286 #[v] w λe w'=>e=Rw (.tuple #[.agg #[.string ⟨(eh R).toArray⟩,Iq (fi R)],Iq (gn R)])/\Bq w w':=by
 obtain⟨a,g,rfl,hh⟩:=h;obtain⟨b,off,rfl,m,n⟩:=hh.resolve_left c;match R,c with
 |r::t,c=>
  by_cases d:r=10;.grind[DM,eh,fi,gn]
  .by_cases j:fk r=true
   .have i:qQ (r::t)=0:=by simp only[qQ,if_pos j]
    have k:eN (r::t)=32:=by simp only[eN,if_pos j]
    have l:dB (r::t)=BG (r::t):=by unfold dB;rw[i];rfl
    simp only[eh,fi,gn,if_neg d,i,k,l];exact rQ (r::t) r b off g w o c f m n rfl 0 32 (r::t) rfl d (.inl ⟨rfl,j,rfl⟩) _ rfl _ rfl _ rfl
   .have i:qQ (r::t)=1:=by simp only[qQ,if_neg j]
    have k:eN (r::t)=r:=by simp only[eN,if_neg j]
    have l:dB (r::t)=BG t:=by unfold dB;rw[i];rfl
    simp only[eh,fi,gn,if_neg d,i,k,l];exact rQ (r::t) r b off g w o c f m n rfl 1 r t rfl d (.inr ⟨rfl,rn,rfl⟩) _ rfl _ rfl _ rfl
def du(l:List (List UInt8×Int)):List Fd:=l.flatMap λc=>[.string ⟨c.1.toArray⟩,Iq c.2]
def qP a b:du (a++b)=du a++du b:=by simp[du]
def vn:(prog.info? 337).map (λi=>(i.zero,i.size,i.bytes))=some (some (.agg #[.string ⟨#[]⟩,Iq 0]),2,24):=pt
def Pg:Fd->Nat
 |.slice _ n _=>n
 |_=>0
def Fe(w:AT)(v:Fd)(zs:zzc):Prop:=
 ∃a cap,v=.slice a zs.length cap/\zs.length<=cap/\cap<=maxLen/\(zs=[]\/∃b off,a=some (aq b off)/\b<w.heap.size/\∀j,j<zs.length->w.cell? (aq b (off+j))=some (Iq (zs[j]?.getD 0)))
def intsC_own{w}{B n}{v}{b}(h:w.ownsRow B 3 1 v n (b.map (Value.int .i64))):Fe w v b:=by
 have d:b.length=n:=by have:=h.1;simpa using this
 obtain⟨a,f,e,hh⟩:=mH h;rcases h.2 with⟨rfl,rfl⟩|⟨g,c,i,rfl,_,m,l,j,_⟩;.have k:=iR.1 d;subst k;exact⟨none,0,rfl,LE,dg,.inl rfl⟩
 .simp only[sK]at e;obtain⟨rfl,_,rfl⟩:=e;exact⟨_,_,by rw[d],dg,j,hh⟩
def yW{w w'}{B n size}{e}{v}{j}(h:w.ownsRow B e size v n j)(k:Bq w w'):w'.ownsRow B e size v n j:=by
 refine⟨h.1,?_⟩;rcases h.2 with l|⟨g,f,i,a,b,c,d⟩;.grind
 .exact .inr ⟨g,f,i,a,b,by rw[k.block g (aj.1 c).1];exact c,d⟩
def intsC_drop{w}{b off a n}{c:zzc}(i:n<=c.length)(d:c.length<=a)(f:a<=maxLen)(g:b<w.heap.size)(h:∀j,j<c.length->w.cell? (aq b (off+j))=some (Iq (c[j]?.getD 0))):
 Fe w (.slice (if a=n then some (aq b off)else some (aq b (off+n))) (c.length-n) (a-n)) (c.drop n):=by
 refine⟨_,_,by rw[dq],rn,dg,?_⟩;by_cases e:a=n;.grind
 .right;rw[if_neg e];grind
def dR(s:BY)(w:AT)(ht:aY w)(hs:s.size<=1099511627776):
 Cw 236 #[.string s] w λe w'=>∃v,e=Rw v/\w'.ownsRow w.heap.size 337 2 v (ba (az s.data.toList)).length (du (ba (az s.data.toList)))/\Bq w w':=by
 obtain⟨i0,hi,Q,S,U⟩:=info_parts vn;have HT:=qH<|ht;clear ht;have Y:=bC s.data.toList;have C:s.data.toList.length=s.size:=by rw[eK];rfl
 rw[C]at Y;go_enter func236,ntmps236;go_wp2_with fail;refine(uZ s _ dg).mono ?_;rintro e G ⟨v1,rfl,V,J⟩;obtain⟨R,o⟩:=af (az s.data.toList);rw[o]at V Y;have H:=qH<|o;have I1:=qH<|intsC_own V;have I:=qH<|HT.below J;clear V o C;have A:=J.size;go_wp2;go_loopw[3,4] (λv rest wr=>∃(c:zzc) (d:List (List UInt8×Int)),Hid (Fe G rest c)/\wr.ownsRow G.heap.size 337 2 v d.length (du d)/\Bq G wr/\Hid (d++ba c=ba R)/\d.length+c.length<=R.length) (λ_ rest _=>Pg rest);.exact⟨R,[],I1,gw _ _ _ _,Ok,rfl,At⟩
 obtain⟨c,d,L,k,i,h,zg⟩:=hrel;obtain⟨a,t,rfl,x,y,hh⟩:=L.out;by_cases f:c=[];.subst f;have e:=h.out;rw[fP,iP]at e;have HE:=qH<|e;clear e hh L h;go_wp2;go_ret;rw[H.out,<-HE.out];exact⟨_,rfl,lQ k A,J.trans (i.mono A)⟩
 .have hp:=iQ.2 f;have zi:(0:Int)<(c.length:Int):=dg;obtain⟨b,off,rfl,Z,hc⟩:=hh.resolve_left f;have P:=i.size;have F:=qH<|
   DK c _ wr (I.below i) f dg ⟨_,t,rfl,.inr ⟨b,off,rfl,dg,λj hj=>(i.cell (p:=(aq b (off+j))) Z).trans (hc j hj)⟩⟩;have z:=AY c;have O:=dC f;have X:Hid ((d++[(eh c,fi c)])++ba (c.drop (gn c))=ba R):=qH<|by rw[<-h.out,ek f];simp
  obtain⟨T,M⟩:=af (eh c);obtain⟨W,N⟩:=af (fi c);obtain⟨n,E⟩:=af (gn c);rw[M,N,E]at F;rw[M,N,E]at X;rw[E]at z O;have HC:=qH<|hc;unfold maxLen at y;clear M N E h L hh hc f;go_wp2_with fail;refine Ut F ?_;rintro w2 D;have zj:=D.size;have g:=yW k D;have m:=i.trans (D.mono P);clear D F k i;go_wp2_with(at_builtin;refine wpList_append_own _ rfl _ _ 335 rfl G.heap.size 337 i0 (.agg #[.string ⟨#[]⟩,Iq 0]) 2 24 underlying335 hi Q S U rfl (by decide) _ _ _ rfl ((g.alloc _).alloc _) _ 1 1 [.string ⟨T.toArray⟩,Iq W] rfl rfl ?c1 ?c2 ?c3 ?c4 ?c5 ?_);case c1=>have:=cell_two_new (w2.alloc (.cells #[.string ⟨T.toArray⟩,Iq W] 337)) (.string ⟨T.toArray⟩) (Iq W) 337;simp_all
  case c2=>intro u hu;simp at hu;rcases hu with rfl|rfl<;>rfl
  case c3=>unfold maxLen;omega
  case c4=>omega
  case c5=>rw[ai,ai];omega
  intro v' w3 r hg _;have l:=λq hq=>(g.lt q hq).1;have B:=m.size;have K:=((m.alloc B _).alloc (by rw[ai];omega) _).grown hg (by rw[ai,ai];omega) l;clear hg l g m;have zh:(n:Int)<=(c.length:Int):=dg;have ze:(c.length:Int)<=(t:Int):=dg;have HD:=qH<|intsC_drop z x (by unfold maxLen;omega) Z HC;go_wp2;go_roundw;.refine⟨c.drop n,d++[(T,W)],HD,?_,K,X,rn⟩;rw[aN,qP];exact r
  .show c.length-n<c.length;omega
def uk(w:AT)(v:Fd)(l:List (List UInt8×Int)):Prop:=
 ∃a cap,v=.slice a l.length cap/\(l=[]\/∃b off,a=some (aq b off)/\b<w.heap.size/\∀j (hj:j<l.length),w.cell? (aq b (off+j*2))=some (.string ⟨(l[j]).1.toArray⟩)/\w.cell? (aq b (off+j*2+1))=some (Iq (l[j]).2))
def uk.below{w w'}{v}{l}(h:uk w v l)(c:Bq w w'):uk w' v l:=by
 obtain⟨a,cap,rfl,hh⟩:=h;refine⟨a,cap,rfl,?_⟩;rcases hh with rfl|⟨b,off,rfl,d,e⟩;.grind
 .exact .inr ⟨b,off,rfl,zz006 d c.size,λj f=>⟨(c.cell (p:=(aq b (off+j*2))) d).trans (e j f).1,(c.cell (p:=(aq b (off+j*2+1))) d).trans (e j f).2⟩⟩
def kj l:(du l).length=l.length*2:=by
 induction l with
 |nil=>rfl
 |cons c l a=>grind[du]
def Dn l j(a:j<l.length):(du l)[j*2]?=some (.string ⟨(l[j]).1.toArray⟩)/\(du l)[j*2+1]?=some (Iq (l[j]).2):=by
 induction l generalizing j with
 |nil=>grind
 |cons c l b=>have e:du (c::l)=.string ⟨c.1.toArray⟩::Iq c.2::du l:=rfl;grind
def tn{w}{B n}{e}{v}{l}(h:w.ownsRow B e 2 v n (du l)):uk w v l:=by
 have b:l.length=n:=by have:=h.1;rw[kj]at this;omega
 rcases h.2 with⟨rfl,rfl⟩|⟨g,a,d,rfl,_,f,_⟩;.have k:=iR.1 b;subst k;exact⟨none,0,rfl,.inl rfl⟩
 .refine⟨some (aq g 0),a,by rw[b],.inr ⟨g,0,rfl,(aj.1 f).1,λj i=>?_⟩⟩;have c:=Dn l j i;have m:=h.cells (g:=g) rfl (j*2) _ c.1;have o:=h.cells (g:=g) rfl (j*2+1) _ c.2;have p:((aq g 0):Addr).add (j*2)=(aq g (0+j*2)):=by unfold Addr.add;split<;>simp_all
  have q:((aq g 0):Addr).add (j*2+1)=(aq g (0+j*2+1)):=by unfold Addr.add;split<;>simp_all
  grind
def fitting_any(l:List (List UInt8×Int))(v:Fd)(W:Int)(w:AT)(B:uk w v l)(hbd:∀c∈l,0<=c.2/\c.2<=2)(J:l.length<=1099511627776)(M:-9223372036854775808<=W)(N:W<=9223372036854775807):
 Cw 290 #[v,Iq W] w λe w'=>e=Rw (Iq (dk l W))/\Bq w w':=by
 obtain⟨a,L,rfl,hh⟩:=B;have q:=qH<|hbd;clear hbd;go_enter func290,ntmps290;go_wp2;go_loopw[1,9] (λx i wr=>∃k:Nat,k<=l.length/\i=Iq k/\x=Iq (W-ak (l.take k))/\Hid (Fit l W k)/\Bq w wr) (λ_ i _=>l.length-(intOf i).toNat);.exact⟨0,LT,rfl,by simp[ak],λj P=>dg,Ok⟩
 obtain⟨k,C,rfl,rfl,d,g⟩:=hrel;have F:=cU l q k;have E:k=0\/ak (l.take k)<=W:=by
  cases k with
  |zero=>omega
  |succ k=>exact .inr (d k dg).2
 have D:k=0->ak (l.take k)=0:=λe=>dg;have o:=g.size;by_cases m:k<l.length
 .have t:(k:Int)<(l.length:Int):=dg;have u:l≠[]:=λe=>rn;obtain⟨b,off,rfl,I,A⟩:=hh.resolve_left u;obtain⟨T,V,f⟩:∃T V,l[k]=(T,V):=⟨_,_,rfl⟩;have H:=q l[k] (kK m);have U:wr.cell? (aq b (off+k*2))=some (.string ⟨T.toArray⟩):=by have:=(A k m).1;rw[f]at this;exact(g.cell (p:=(aq b (off+k*2))) I).trans this
  have c1:wr.cell? (aq b (off+k*2+1))=some (Iq V):=by have:=(A k m).2;rw[f]at this;exact(g.cell (p:=(aq b (off+k*2+1))) I).trans this
  have y:Hid (ak (l.take (k+1))=ak (l.take k)+V):=qH<|by rw[eH l k m,f]
  have G:Hid (tx l k=T):=qH<|by rw[Cf m,f]
  rw[f]at H;obtain⟨X,z⟩:=af (ak (l.take k));rw[z]at y F E D;rw[z];simp only at H;have R:-9223372036854775808<=W-X:=dg;have S:W-X<=9223372036854775807:=dg;clear hh A f z u;by_cases n:T=[10]
  .have r:=qH<|fitN_stop l W k C d (λ_=>.inl (by rw[G.out,n]));have s:(T==[10])=true:=by rw[n];rfl
   go_wp2;go_ret;rw[r.out];exact⟨rfl,g.alloc o _⟩
  .have s:(T==[10])=false:=by simpa using n
   by_cases O:W-X<V;.have r:=qH<|fitN_stop l W k C d (λ_=>.inr (by rw[y.out];omega));go_wp2;go_ret;rw[r.out];exact⟨rfl,g.alloc o _⟩
   .have K:Hid (Fit l W (k+1)):=λj P=>by
     by_cases e:j=k;.subst e;rw[G.out,y.out];grind
     .exact d j dg
    go_wp2;go_roundw;.exact⟨k+1,dg,by go_num,by rw[y.out];grind,K,g.alloc o _⟩
    .simp[intOf];omega
 .have t:¬(k:Int)<(l.length:Int):=dg;have r:=qH<|fitN_stop l W k C d (λh=>absurd h m);have Q:k=l.length:=dg;clear hh;go_wp2;go_ret;rw[r.out];simp_all
def ri(l:List (List UInt8×Int))(v:Fd)(w:AT)(n:uk w v l)(t:l.length<=1099511627776):
 Cw 343 #[v] w λe w'=>e=Rw (Iq (dS l l.length))/\Bq w w':=by
 obtain⟨a,u,rfl,hh⟩:=n;go_enter func343,ntmps343;go_wp2;go_loopw[3] (λi wr=>∃k:Nat,k<=l.length/\i=Iq ((k:Int)-1)/\Hid (dS l l.length=dS l k)/\Bq w wr) (λi _=>(intOf i+1).toNat);.exact⟨l.length,LE,rfl,rfl,Ok⟩
 obtain⟨k,A,rfl,m,f⟩:=hrel;have y:=f.size;cases k with
 |zero=>clear hh;go_wp2;go_ret;rw[m.out];exact⟨rfl,f⟩
 |succ k=>
  have h:k<l.length:=dg;have j:l≠[]:=λe=>rn;obtain⟨b,off,rfl,x,s⟩:=hh.resolve_left j;obtain⟨T,V,d⟩:∃T V,l[k]=(T,V):=⟨_,_,rfl⟩;have z:wr.cell? (aq b (off+k*2))=some (.string ⟨T.toArray⟩):=by have:=(s k h).1;rw[d]at this;exact(f.cell (p:=(aq b (off+k*2))) x).trans this
  have r:Hid (tx l k=T):=qH<|by rw[Cf h,d]
  have o:((k+1:Nat):Int)-1=(k:Int):=dg;rw[o];clear hh s d j;by_cases c:T=[32]
  .have q:Hid (dS l l.length=k):=qH<|by rw[m.out];simp only[dS];rw[if_pos (by rw[r.out,c])]
   have g:(T==[32])=true:=by rw[c];rfl
   go_wp2;go_ret;rw[q.out];simp_all
  .have g:(T==[32])=false:=by simpa using c
   have q:Hid (dS l l.length=dS l k):=qH<|by rw[m.out];simp only[dS];rw[if_neg (by rw[r.out];exact c)]
   go_wp2;go_roundw;.grind
   .simp[intOf]
def nc(s:BY)(w:AT)(D:aY w)(L:s.size<=1099511627776):
 Cw 241 #[.string s] w λe w'=>e=Rw (Iq (ak (ba (az s.data.toList))))/\Bq w w':=by
 have m:s.data.toList.length=s.size:=by rw[eK];rfl
 have K:=bC s.data.toList;have J:=ci (az s.data.toList);rw[m]at K;have hbd:=eV (az s.data.toList);have G:Hid (Cw 236 #[.string s] w λe w'=>∃v,e=Rw v/\uk w' v (ba (az s.data.toList))/\Bq w w'):=by refine(dR s w D L).mono ?_;rintro e E ⟨v,rfl,o,b⟩;exact⟨v,rfl,tn o,b⟩
 obtain⟨l,r⟩:=af (ba (az s.data.toList));rw[r]at G J hbd;have H:=qH<|r;have g:=qH<|hbd;clear r m D hbd;go_enter func241,ntmps241;go_wp2_with fail;refine G.mono ?_;rintro e E ⟨v1,rfl,⟨a,I,rfl,hh⟩,A⟩;have u:=A.size;clear G;go_wp2;go_loopw[3,9] (λt i wr=>∃k:Nat,k<=l.length/\i=Iq k/\t=Iq (ak (l.take k))/\Bq E wr) (λ_ i _=>l.length-(intOf i).toNat);.exact⟨0,LT,rfl,rfl,Ok⟩
 obtain⟨k,N,rfl,rfl,d⟩:=hrel;have y:=cU l g k;have x:=d.size;by_cases f:k<l.length
 .have h:(k:Int)<(l.length:Int):=dg;have j:l≠[]:=λe=>rn;obtain⟨b,off,rfl,C,q⟩:=hh.resolve_left j;obtain⟨T,W,c⟩:∃T W,l[k]=(T,W):=⟨_,_,rfl⟩;have B:=g l[k] (kK f);have M:wr.cell? (aq b (off+k*2))=some (.string ⟨T.toArray⟩):=by have:=(q k f).1;rw[c]at this;exact(d.cell (p:=(aq b (off+k*2))) C).trans this
  have c1:wr.cell? (aq b (off+k*2+1))=some (Iq W):=by have:=(q k f).2;rw[c]at this;exact(d.cell (p:=(aq b (off+k*2+1))) C).trans this
  have z:Hid (ak (l.take (k+1))=ak (l.take k)+W):=qH<|by rw[eH l k f,c]
  rw[c]at B;obtain⟨X,n⟩:=af (ak (l.take k));rw[n]at z y;rw[n];simp only at B;clear hh q c n j;go_wp2;go_roundw;.exact⟨k+1,dg,by go_num,by rw[z.out],d.alloc x _⟩
  .simp[intOf];omega
 .have h:¬(k:Int)<(l.length:Int):=dg;have F:Hid (l.take k=l):=im dg;clear hh;go_wp2;go_ret;rw[H.out,F.out];exact⟨rfl,A.trans (d.mono u)⟩
