import Derived.Test.YtaanagpadfcmlaaGreatDoorQ32
set_option linter.all false
set_option maxRecDepth 100000
set_option maxHeartbeats 16000000
namespace Go.Proofs.YtaanagpadfcmlaaGreatDoor
open Go.RowKit Go.Proofs.Tryz
def lV(w:World)(v:Value)(l:List (List UInt8×Int)):Prop:=
 ∃a cap,v=.slice a l.length cap/\(l=[]\/∃b off,a=some (aj b off)/\b<w.heap.size/\∀j (hj:j<l.length),w.cell? (aj b (off+j*2))=some (.string ⟨(l[j]).1.toArray⟩)/\w.cell? (aj b (off+j*2+1))=some (Iq (l[j]).2))
theorem lV.below{w w'}{v}{l}(h:lV w v l)(d:Bt w w'):lV w' v l:=by
 obtain⟨a,c,rfl,hh⟩:=h;refine⟨a,c,rfl,?_⟩;rcases hh with rfl|⟨b,off,rfl,e,f⟩;·grind
 ·exact .inr ⟨b,off,rfl,zz007 e d.size,λj g=>⟨(d.cell (p:=(aj b (off+j*2))) e).trans (f j g).1,(d.cell (p:=(aj b (off+j*2+1))) e).trans (f j g).2⟩⟩
theorem lB l:(dB l).length=l.length*2:=by
 induction l with
 |nil=>rfl
 |cons c l a=>grind[dB]
theorem nT l j(a:j<l.length):(dB l)[j*2]?=some (.string ⟨(l[j]).1.toArray⟩)/\(dB l)[j*2+1]?=some (Iq (l[j]).2):=by
 induction l generalizing j with
 |nil=>grind
 |cons c l b=>have e:dB (c::l)=.string ⟨c.1.toArray⟩::Iq c.2::dB l:=rfl;grind
theorem pP{w}{B n}{e}{v}{l}(h:w.ownsRow B e 2 v n (dB l)):lV w v l:=by
 have b:l.length=n:=by have:=h.1;rw[lB]at this;omega
 rcases h.2 with⟨rfl,rfl⟩|⟨g,a,d,rfl,_,f,_⟩;·have k:=jg.1 b;subst k;exact⟨none,0,rfl,.inl rfl⟩
 ·refine⟨some (aj g 0),a,by rw[b],.inr ⟨g,0,rfl,(aD.1 f).1,λj i=>?_⟩⟩;have c:=nT l j i;have m:=h.cells (g:=g) rfl (j*2) _ c.1;have o:=h.cells (g:=g) rfl (j*2+1) _ c.2;have p:((aj g 0):Addr).add (j*2)=(aj g (0+j*2)):=by unfold Addr.add;split<;>simp_all
  have q:((aj g 0):Addr).add (j*2+1)=(aj g (0+j*2+1)):=by unfold Addr.add;split<;>simp_all
  grind
theorem fitting_any(l:List (List UInt8×Int))(v:Value)(W:Int)(w:World)(B:lV w v l)(hbd:∀c∈l,0<=c.2/\c.2<=2)(J:l.length<=1099511627776)(M:-9223372036854775808<=W)(N:W<=9223372036854775807):
 Cw 192 #[v,Iq W] w λe w'=>e=Rw (Iq (cR l W))/\Bt w w':=by
 obtain⟨a,L,rfl,hh⟩:=B;have q:=qH<|hbd;clear hbd;go_enter func192,ntmps192;go_wp2;go_loopw[1,9] (λx i wr=>∃k:Nat,k<=l.length/\i=Iq k/\x=Iq (W-ai (l.take k))/\Hid (Fit l W k)/\Bt w wr) (λ_ i _=>l.length-(intOf i).toNat);case atStart=>exact⟨0,aR _,rfl,by simp[ai],λj P=>dg,af _ _⟩
 case round=>
  obtain⟨k,C,rfl,rfl,d,g⟩:=hrel;have F:=bB l q k;have E:k=0\/ai (l.take k)<=W:=by
   cases k with
   |zero=>omega
   |succ k=>exact .inr (d k dg).2
  have D:k=0->ai (l.take k)=0:=λe=>dg;have o:=g.size;by_cases m:k<l.length
  ·have t:(k:Int)<(l.length:Int):=dg
   have u:l≠[]:=λe=>rd;obtain⟨b,off,rfl,I,A⟩:=hh.resolve_left u;obtain⟨T,V,f⟩:∃T V,l[k]=(T,V):=⟨_,_,rfl⟩;have H:=q l[k] (iE m);have U:wr.cell? (aj b (off+k*2))=some (.string ⟨T.toArray⟩):=by have:=(A k m).1;rw[f]at this;exact(g.cell (p:=(aj b (off+k*2))) I).trans this
   have c1:wr.cell? (aj b (off+k*2+1))=some (Iq V):=by have:=(A k m).2;rw[f]at this;exact(g.cell (p:=(aj b (off+k*2+1))) I).trans this
   have y:Hid (ai (l.take (k+1))=ai (l.take k)+V):=by show _=_;rw[wideSum_snoc l k m,f]
   have G:Hid (tx l k=T):=by show _=_;rw[sj m,f]
   rw[f]at H;obtain⟨X,z⟩:=ad (ai (l.take k));rw[z]at y F E D;rw[z];simp only at H;have R:-9223372036854775808<=W-X:=dg;have S:W-X<=9223372036854775807:=dg;clear hh A f z u;by_cases n:T=[10]
   ·have r:=qH<|fitN_stop l W k C d (λ_=>.inl (by rw[G.out,n]));have s:(T==[10])=true:=by rw[n];rfl
    go_wp2;go_ret;rw[r.out];exact⟨rfl,g.alloc o _⟩
   ·have s:(T==[10])=false:=by simpa using n
    by_cases O:W-X<V;·have r:=qH<|fitN_stop l W k C d (λ_=>.inr (by rw[y.out];omega));go_wp2;go_ret;rw[r.out];exact⟨rfl,g.alloc o _⟩
    ·have K:Hid (Fit l W (k+1)):=λj P=>by
      by_cases e:j=k;·subst e;rw[G.out,y.out];grind
      ·exact d j dg
     go_wp2;go_roundw;case rel=>exact⟨k+1,dg,by go_num,by rw[y.out];grind,K,g.alloc o _⟩
     case measure=>simp[intOf];omega
  ·have t:¬(k:Int)<(l.length:Int):=dg
   have r:=qH<|fitN_stop l W k C d (λh=>absurd h m);have Q:k=l.length:=dg
   clear hh;go_wp2;go_ret;rw[r.out];simp_all
theorem sY(l:List (List UInt8×Int))(v:Value)(w:World)(n:lV w v l)(t:l.length<=1099511627776):
 Cw 245 #[v] w λe w'=>e=Rw (Iq (cT l l.length))/\Bt w w':=by
 obtain⟨a,u,rfl,hh⟩:=n;go_enter func245,ntmps245;go_wp2;go_loopw[3] (λi wr=>∃k:Nat,k<=l.length/\i=Iq ((k:Int)-1)/\Hid (cT l l.length=cT l k)/\Bt w wr) (λi _=>(intOf i+1).toNat);case atStart=>exact⟨l.length,ae _,rfl,rfl,af _ _⟩
 case round=>
  obtain⟨k,A,rfl,m,f⟩:=hrel;have y:=f.size;cases k with
  |zero=>clear hh;go_wp2;go_ret;rw[m.out];exact⟨rfl,f⟩
  |succ k=>
   have h:k<l.length:=dg;have j:l≠[]:=λe=>rd;obtain⟨b,off,rfl,x,s⟩:=hh.resolve_left j;obtain⟨T,V,d⟩:∃T V,l[k]=(T,V):=⟨_,_,rfl⟩;have z:wr.cell? (aj b (off+k*2))=some (.string ⟨T.toArray⟩):=by have:=(s k h).1;rw[d]at this;exact(f.cell (p:=(aj b (off+k*2))) x).trans this
   have r:Hid (tx l k=T):=by show _=_;rw[sj h,d]
   have o:((k+1:Nat):Int)-1=(k:Int):=dg;rw[o];clear hh s d j;by_cases c:T=[32]
   ·have q:Hid (cT l l.length=k):=by show _=_;rw[m.out];simp only[cT];rw[if_pos (by rw[r.out,c])]
    have g:(T==[32])=true:=by rw[c];rfl
    go_wp2;go_ret;rw[q.out];simp_all
   ·have g:(T==[32])=false:=by simpa using c
    have q:Hid (cT l l.length=cT l k):=by show _=_;rw[m.out];simp only[cT];rw[if_neg (by rw[r.out];exact c)]
    go_wp2;go_roundw;case rel=>grind
    case measure=>simp[intOf]
theorem oL(s:ByteArray)(w:World)(D:bN w)(L:s.size<=1099511627776):
 Cw 140 #[.string s] w λe w'=>e=Rw (Iq (ai (aG (ak s.data.toList))))/\Bt w w':=by
 have m:s.data.toList.length=s.size:=by rw[dZ];rfl
 have K:=aX s.data.toList;have J:=bu (ak s.data.toList);rw[m]at K;have hbd:=cE (ak s.data.toList);have G:Hid (Cw 135 #[.string s] w λe w'=>∃v,e=Rw v/\lV w' v (aG (ak s.data.toList))/\Bt w w'):=by refine(ga s w D L).mono ?_;rintro e E ⟨v,rfl,o,b⟩;exact⟨v,rfl,pP o,b⟩
 obtain⟨l,r⟩:=ad (aG (ak s.data.toList));rw[r]at G J hbd;have H:=qH<|r;have g:=qH<|hbd;clear r m D hbd;go_enter func140,ntmps140;go_wp2_with fail;refine G.mono ?_;rintro e E ⟨v1,rfl,⟨a,I,rfl,hh⟩,A⟩;have u:=A.size;clear G;go_wp2;go_loopw[3,9] (λt i wr=>∃k:Nat,k<=l.length/\i=Iq k/\t=Iq (ai (l.take k))/\Bt E wr) (λ_ i _=>l.length-(intOf i).toNat);case atStart=>exact⟨0,aR _,rfl,rfl,af _ _⟩
 case round=>
  obtain⟨k,N,rfl,rfl,d⟩:=hrel;have y:=bB l g k;have x:=d.size;by_cases f:k<l.length
  ·have h:(k:Int)<(l.length:Int):=dg
   have j:l≠[]:=λe=>rd;obtain⟨b,off,rfl,C,q⟩:=hh.resolve_left j;obtain⟨T,W,c⟩:∃T W,l[k]=(T,W):=⟨_,_,rfl⟩;have B:=g l[k] (iE f);have M:wr.cell? (aj b (off+k*2))=some (.string ⟨T.toArray⟩):=by have:=(q k f).1;rw[c]at this;exact(d.cell (p:=(aj b (off+k*2))) C).trans this
   have c1:wr.cell? (aj b (off+k*2+1))=some (Iq W):=by have:=(q k f).2;rw[c]at this;exact(d.cell (p:=(aj b (off+k*2+1))) C).trans this
   have z:Hid (ai (l.take (k+1))=ai (l.take k)+W):=by show _=_;rw[wideSum_snoc l k f,c]
   rw[c]at B;obtain⟨X,n⟩:=ad (ai (l.take k));rw[n]at z y;rw[n];simp only at B;clear hh q c n j;go_wp2;go_roundw;case rel=>exact⟨k+1,dg,by go_num,by rw[z.out],d.alloc x _⟩
   case measure=>simp[intOf];omega
  ·have h:¬(k:Int)<(l.length:Int):=dg
   have F:Hid (l.take k=l):=eP dg;clear hh;go_wp2;go_ret;rw[H.out,F.out];exact⟨rfl,A.trans (d.mono u)⟩
theorem yQ(a b:List UInt8):(⟨a.toArray⟩:ByteArray)++(⟨b.toArray⟩:ByteArray)=⟨(a++b).toArray⟩:=by apply kM;simp
theorem vg:(prog.info? 112).map (λi=>(i.zero,i.size,i.bytes))=some (some (.agg #[.string ⟨#[]⟩,Iq 0]),2,24):=ns
theorem E5 l x:enc (l++[x])=enc l++Lib.encodeRune x:=by simp[enc]
theorem xE b L k(h:k<=L.length):(enc (b::keep L k)).length<=20:=by grind[uY,keep,kh]
theorem clus_ten{R}{a}{b}(hp:a<R.length)(h:b++aG (R.drop a)=aG R)(c:R[a]=10):
 (b++[([10],0)])++aG (R.drop (a+1))=aG R:=by
 have e:R.drop a=10::R.drop (a+1):=by rw[sC hp,c]
 grind[aG,dj,ee,ef,fK]
theorem EQ{R}{a k}{c}{r}(hp:a<R.length)(h:c++aG (R.drop a)=aG R)(n:R[a]=r)(b:r≠10)(j:dO r=true)(l:sK (R.drop a)=(R.drop a).take k)(m:k<=(R.drop a).length):
 (c++[(enc (32::keep (R.drop a) k),1)])++aG (R.drop (a+k))=aG R:=by
 have e:R.drop a=r::R.drop (a+1):=by rw[sC hp,n]
 have f:lz (r::R.drop (a+1))=0:=by simp only[lz,if_pos j]
 have g:dW (r::R.drop (a+1))=32:=by simp only[dW,if_pos j]
 have i:dc (r::R.drop (a+1))=(R.drop a).take k:=by unfold dc;rw[f,Kt,<-e,l]
 have d:R.drop a≠[]:=by rw[e];simp
 rw[<-h,dj d];have c1:ee (R.drop a)=enc (32::keep (R.drop a) k):=by rw[e];simp only[ee,if_neg b,g,i];rw[<-e];rfl
 have c2:ef (R.drop a)=1:=by rw[e];simp only[ef,if_neg b,g];exact oF
 have c3:fK (R.drop a)=k:=by rw[e];simp only[fK,if_neg b,f,i,b_,aZ];omega
 rw[c1,c2,c3,sG];simp
theorem EP{R}{a k}{c}{r}(hp:a<R.length)(h:c++aG (R.drop a)=aG R)(o:R[a]=r)(b:r≠10)(n:dO r=false)(l:sK (R.drop (a+1))=(R.drop (a+1)).take k)(m:k<=(R.drop (a+1)).length):
 (c++[(enc (r::keep (R.drop (a+1)) k),jF r)])++aG (R.drop (a+1+k))=aG R:=by
 have d:¬dO r=true:=by rw[n];simp
 have e:R.drop a=r::R.drop (a+1):=by rw[sC hp,o]
 have g:lz (r::R.drop (a+1))=1:=by simp only[lz,if_neg d]
 have i:dW (r::R.drop (a+1))=r:=by simp only[dW,if_neg d]
 have j:dc (r::R.drop (a+1))=(R.drop (a+1)).take k:=by unfold dc;rw[g];exact l
 have f:R.drop a≠[]:=by rw[e];simp
 rw[<-h,dj f];have c1:ee (R.drop a)=enc (r::keep (R.drop (a+1)) k):=by rw[e];simp only[ee,if_neg b,i,j];rfl
 have c2:ef (R.drop a)=jF r:=by rw[e];simp only[ef,if_neg b,i]
 have c3:fK (R.drop a)=1+k:=by rw[e];simp only[fK,if_neg b,g,j,b_];omega
 rw[c1,c2,c3,sG,Nat.add_assoc];simp
theorem I2{R:List Int}{a k}{r}(hp:a<R.length)(b:R[a]=r)(d:dO r=true)(c:sK (R.drop a)=(R.drop a).take k):1<=k:=by
 rcases Nat.eq_zero_or_pos k with e|e
 ·subst e;have e:R.drop a=r::R.drop (a+1):=by rw[sC hp,b]
  simp_all[sK]
 omega
theorem rClusters_any(s:ByteArray)(w:World)(hs:s.size<=1099511627776):
 Cw 44 #[.string s] w λe w'=>∃v,e=Rw v/\w'.ownsRow w.heap.size 112 2 v (aG (ak s.data.toList)).length (dB (aG (ak s.data.toList)))/\Bt w w':=by
 obtain⟨i0,hi,Y,Z,za⟩:=info_parts vg;have hR:=aX s.data.toList;rw[ra]at hR;go_enter func44,ntmps44;go_wp2_with fail;refine(yw s _ dg).mono ?_;rintro e w1 ⟨v1,rfl,o1,b1⟩;obtain⟨R,hRe⟩:=ad (ak s.data.toList);rw[hRe]at o1 hR;have zG:=qH<|hRe;obtain⟨a,zR,rfl,hh⟩:=kY o1;clear o1 hRe;have zy:=b1.size;go_wp2;go_loopw[4,5] (λv i wr=>∃(d:Nat) (z:List (List UInt8×Int)),i=Iq d/\d<=R.length/\wr.ownsRow w1.heap.size 112 2 v z.length (dB z)/\Bt w1 wr/\Hid (z++aG (R.drop d)=aG R)/\z.length<=d) (λ_ i _=>R.length-(intOf i).toNat);case atStart=>exact⟨0,[],rfl,aR _,eO _ _ _ _,af _ _,rfl,ae _⟩
 case round=>
  obtain⟨d,z,rfl,zX,D,f,u,zU⟩:=hrel;have zO:=f.size;by_cases hp:d<R.length
  ·have zN:(d:Int)<(R.length:Int):=dg
   have zx:R≠[]:=λe=>rd;obtain⟨b,off,rfl,hb,hc⟩:=hh.resolve_left zx;have HC:Hid (∀(wX:World),Bt w1 wX->∀j (I:j<R.length),wX.cell? (aj b (off+j))=some (Iq R[j])):=by intro wX hX j I;rw[(hX.cell (p:=(aj b (off+j))) hb),hc j I,dI I];rfl
   obtain⟨r,hr⟩:=ad (R[d]);have zK:wr.cell? (aj b (off+d))=some (Iq r):=by have:=HC wr f d hp;rw[hr]at this;exact this
   have HR:=qH<|hr;clear hh hc hr zx;by_cases K:r=10
   ·have Q:=qH<|clus_ten hp u (by rw[HR.out];exact K);subst K;clear u HC HR;go_wp2_with(at_builtin;refine Gn hi Y Z za D f [.string ⟨#[10]⟩,Iq 0] rfl _ _ rfl underlying115 ⟨rfl,by decide,by decide⟩ rfl rfl ⟨rfl,rfl⟩ dg ?_);intro v' w9 n E;clear D f;go_wp2;go_roundw;case rel=>refine⟨d+1,z++[([10],0)],by go_num,dg,?_,E,Q,by simp;omega⟩;rw[aU,eU];exact n
    case measure=>simp[intOf];omega
   ·have zP:(r==10)=false:=by simp[K]
    have zc:Hid (r≠10):=K;clear K;have S:∃(v:Int) (o:Nat) (c W:Int),jF r=v/\(v=0/\o=0/\c=32/\W=1\/(v==0)=false/\o=1/\c=r/\W=v)/\o<=1/\Hid (∀k,k<=(R.drop (d+o)).length->sK (R.drop (d+o))=(R.drop (d+o)).take k->(z++[(enc (c::keep (R.drop (d+o)) k),W)])++aG (R.drop (d+k+o))=aG R/\1<=k+o):=by
     by_cases hm:jF r=0;·have HM:=(mU r).2 ⟨zc,hm⟩;exact⟨0,0,32,1,hm,.inl ⟨rfl,rfl,rfl,rfl⟩,dg,λk G h=>⟨EQ hp u HR zc HM h G,I2 hp HR HM h⟩⟩
     ·have HM:=(ep r).2 (λh=>hm h.2);refine⟨jF r,1,r,jF r,rfl,.inr ⟨by simp[hm],rfl,rfl,rfl⟩,dg,λk G h=>⟨?_,dg⟩⟩;have:=EP (k:=k) hp u HR zc HM h G;grind
    obtain⟨v,o,c,W,hv,zL,zV,ze⟩:=S;have zH:Hid (∀w,Cw 83 #[Iq r] w λe w'=>e=Rw (Iq v)/\Bt w w'):=by intro w;have:=mq r w;rw[hv]at this;exact this
    clear hv u;rcases zL with⟨hv,ho,hc,hW⟩|⟨hv,ho,hc,hW⟩;all_goals
     have HO:=qH<|ho;have zD:=qH<|hc;have zg:=qH<|hW;clear ho hc hW;try subst hv
     go_wp2_with fail;refine(zH _).mono ?_;rintro e w2 ⟨rfl,b2⟩;have N:=fk D b2;have V:=f.trans (b2.mono zO);have zq:w2.cell? (aj b (off+d))=some (Iq r):=by have:=HC w2 V d hp;rw[HR.out]at this;exact this
     clear b2 D f zK;go_wp2_with fail;refine(iC _ _).mono ?_;rintro e w3 ⟨rfl,b3⟩;have zz:=V.size;have t:=fk N b3;have M:=V.trans (b3.mono zz);have zA:=M.size;clear b3 N V zq;obtain⟨L,hL⟩:=ad (R.drop (d+o));have zS:L.length+(d+o)<=R.length:=by rw[<-hL,cL];omega
     have zT:R.length<=L.length+(d+o):=by rw[<-hL,cL];omega
     have P:=qH<|hL;have zF:Hid (∀k (G:k<L.length) (zv:d+k+o<R.length),R[d+k+o]=L[k]):=by
      intro k G zv;have e:L[k]?=R[d+k+o]?:=by rw[<-P.out,Ao];congr 1;omega
      rw[dI G,dI zv]at e;exact(kK e).symm
     clear hL;try rw[show Lib.encodeRune r=enc [r]by simp[enc]]
     go_wp2;go_loopw[5,7,8] (λq tx m wr=>∃k:Nat,k<=L.length/\q=Iq (((d+k+o:Nat):Int)-1)/\m=Iq k/\tx=.string ⟨(enc (c::keep L k)).toArray⟩/\Bt w3 wr/\Hid (∀j (I:j<L.length),j<k->dO (L[j])=true)) (λ_ _ m _=>L.length-(intOf m).toNat);case atStart=>exact⟨0,aR _,by rw[HO.out];simp,rfl,by rw[zD.out];rfl,af _ _,λj I h=>dg⟩
     case round=>
      obtain⟨k,G,rfl,rfl,rfl,f,C⟩:=hrel;have zC:=f.size;have B:=M.trans (f.mono zA);have X:=xE c L k G;by_cases zj:k<L.length
      ·have zw:((d+k+o:Nat):Int)<(R.length:Int):=dg
       obtain⟨x,hx⟩:=ad (L[k]);have S:=qH<|hx;have zl:Hid (∀(wX:World),Bt w1 wX->wX.cell? (aj b (off+(d+k+o)))=some (Iq x)):=by intro wX hX;have:=HC wX hX (d+k+o) dg;rw[zF k zj dg,S.out]at this;exact this
       have zr:=zl wr B;clear hx;by_cases A:x=10
       ·have J:Hid (sK L=L.take k):=eG dO _ k G C (λI=>by rw[S.out,ep,A];simp);obtain⟨hS,zu⟩:=ze k (by rw[P.out];exact G) (by rw[P.out];exact J);rw[P.out,zg.out]at hS;have Q:=qH<|hS;clear hS;have g:=fk t f;have zk:(x !=10)=false:=by rw[A];rfl
        obtain⟨T,l⟩:=ad (enc (c::keep L k));rw[l]at Q;rw[l];clear A C S l t M X f;go_wp2_with(at_builtin;refine Gn hi Y Z za g B [.string ⟨T.toArray⟩,Iq _] rfl _ _ rfl underlying115 ⟨rfl,by decide,by decide⟩ rfl rfl ⟨rfl,rfl⟩ dg ?_);intro v' w9 n E;clear g B;go_wp2;go_roundw;case rel=>refine⟨d+k+o,z++[(T,_)],by go_num,dg,?_,E,Q,by simp;omega⟩;rw[aU,eU];exact n
        case measure=>simp[intOf];omega
       ·have zk:(x !=10)=true:=by simp[A]
        have zn:Hid (x≠10):=A;clear A;by_cases H:jF x=0
        ·have zI:=qH<|(mU x).2 ⟨zn,H⟩;have zb:Hid (∀j (I:j<L.length),j<k+1->dO (L[j])=true):=by
          intro j I h;by_cases ej:j=k;·subst ej;rw[S.out];exact zI
          ·exact C j I dg
         have zh:Hid (∀w,Cw 83 #[Iq x] w λe w'=>e=Rw (Iq 0)/\Bt w w'):=by intro w;have:=mq x w;rw[H]at this;exact this
         clear H C;go_wp2_with fail;refine(zh _).mono ?_;rintro e w5 ⟨rfl,b5⟩;have F:=f.trans (b5.mono zC);have zt:=zl w5 (B.trans (b5.mono dg));have zB:=F.size;clear b5 f B zr;by_cases h4:k<4
         ·have zJ:((k+1:Nat):Int)<=4:=dg
          have zm:Hid (enc (c::keep L (k+1))=enc (c::keep L k)++Lib.encodeRune x):=by show _=_;rw[xD _ _ zj h4,S.out,<-List.cons_append,E5]
          go_wp2_with(go_at_call 42;refine(iC x _).mono ?_);rintro e w6 ⟨rfl,b6⟩;have zM:=lD x;have zo:=F.trans (b6.mono zB);obtain⟨T,l⟩:=ad (enc (c::keep L k));obtain⟨U,hU⟩:=ad (Lib.encodeRune x);rw[l,hU]at zm;rw[l]at X;rw[hU]at zM;rw[l,hU];clear b6 F zt l hU;go_wp2;go_roundw;case rel=>exact⟨k+1,dg,by go_num,by go_num,by rw[zm.out,<-yQ],zo,zb⟩
          case measure=>simp[intOf];omega
         ·have zJ:¬((k+1:Nat):Int)<=4:=dg
          have zE:Hid (keep L (k+1)=keep L k):=tR _ _ dg;go_wp2;go_roundw;case rel=>exact⟨k+1,dg,by go_num,by go_num,by rw[zE.out],F,zb⟩
          case measure=>simp[intOf];omega
        ·obtain⟨y,hy⟩:=ad (jF x);have zY:(y==0)=false:=by rw[<-hy];simp[H]
         have zh:Hid (∀w,Cw 83 #[Iq x] w λe w'=>e=Rw (Iq y)/\Bt w w'):=by intro w;have:=mq x w;rw[hy]at this;exact this
         have J:Hid (sK L=L.take k):=eG dO _ k G C (λI=>by rw[S.out,ep];exact λh=>H h.2);obtain⟨hS,zu⟩:=ze k (by rw[P.out];exact G) (by rw[P.out];exact J);rw[P.out,zg.out]at hS;have Q:=qH<|hS;clear hS;have g:=fk t f;obtain⟨T,l⟩:=ad (enc (c::keep L k));rw[l]at Q;rw[l];clear C S l t M X f H hy;go_wp2_with fail;refine(zh _).mono ?_;rintro e w5 ⟨rfl,b5⟩;have O:=fk g b5;have zi:=B.trans (b5.mono dg);have zQ:=zi.size;clear b5 g B zr;go_wp2_with(at_builtin;refine Gn hi Y Z za O zi [.string ⟨T.toArray⟩,Iq _] rfl _ _ rfl underlying115 ⟨rfl,by decide,by decide⟩ rfl rfl ⟨rfl,rfl⟩ dg ?_);intro v' w9 n E;clear O zi;go_wp2;go_roundw;case rel=>refine⟨d+k+o,z++[(T,_)],by go_num,dg,?_,E,Q,by simp;omega⟩;rw[aU,eU];exact n
         case measure=>simp[intOf];omega
      ·have zw:¬((d+k+o:Nat):Int)<(R.length:Int):=dg
       have J:Hid (sK L=L.take k):=eG dO _ k G C (λI=>absurd I zj);obtain⟨hS,zu⟩:=ze k (by rw[P.out];exact G) (by rw[P.out];exact J);rw[P.out,zg.out]at hS;have Q:=qH<|hS;clear hS;have g:=fk t f;obtain⟨T,l⟩:=ad (enc (c::keep L k));rw[l]at Q;rw[l];clear C l t M X f;go_wp2_with(at_builtin;refine Gn hi Y Z za g B [.string ⟨T.toArray⟩,Iq _] rfl _ _ rfl underlying115 ⟨rfl,by decide,by decide⟩ rfl rfl ⟨rfl,rfl⟩ dg ?_);intro v' w9 n E;clear g B;go_wp2;go_roundw;case rel=>refine⟨d+k+o,z++[(T,_)],by go_num,dg,?_,E,Q,by simp;omega⟩;rw[aU,eU];exact n
       case measure=>simp[intOf];omega
  ·have zN:¬(d:Int)<(R.length:Int):=dg
   have e:=u.out;rw[ut dg,gQ,jH]at e;have HE:=qH<|e;clear e hh u;go_wp2;go_ret;rw[zG.out,<-HE.out];exact⟨_,rfl,gL D zy,b1.trans (f.mono zy)⟩
theorem Cf a b w:
 Cw 74 #[Iq a,Iq b] w λe w'=>e=Rw (Iq (min a b))/\w'=w:=by
 by_cases h:a<b
 ·have c:Hid (min a b=a):=by show _=_;omega
  go_enter func74,ntmps74;go_wp2;go_ret;rw[c.out];simp_all
 ·have c:Hid (min a b=b):=by show _=_;omega
  go_enter func74,ntmps74;go_wp2;go_ret;rw[c.out];simp_all
theorem kB(n:Nat)(w:World)(g:n<=1099511627776):
 Cw 85 #[Iq n] w λe w'=>e=Rw (.string ⟨(List.replicate n 32).toArray⟩)/\w'=w:=by
 go_enter func85,ntmps85;go_wp2;go_loop[3,4] (λt i=>∃k:Nat,k<=n/\i=Iq k/\∃Y,t=.string ⟨Y⟩/\Hid (Y=(List.replicate k 32).toArray)/\Y.size=k) (λ_ i=>n-(intOf i).toNat);case atStart=>exact⟨0,aR _,rfl,_,rfl,rfl,rfl⟩
 case round=>
  obtain⟨k,f,rfl,Y,rfl,b,d⟩:=hrel;by_cases c:k<n
  ·have a:(k:Int)<(n:Int):=dg
   go_wp2;go_round;case rel=>
    refine⟨k+1,dg,by go_num,_,rfl,?_,?_⟩;·show _=_;rw[b.out];grind
    grind
   case measure=>simp[intOf];omega
  ·have a:¬(k:Int)<(n:Int):=dg
   obtain rfl:k=n:=dg;go_wp2;go_ret;rw[b.out];simp_all
theorem lj(l:List (List UInt8×Int))(v:Value)(w:World)(o:lV w v l)(q:l.length<=1099511627776)(y:(aB l).length<=70368744177664):
 Cw 162 #[v] w λe w'=>e=Rw (.string ⟨(aB l).toArray⟩)/\w'=w:=by
 obtain⟨a,s,rfl,hh⟩:=o;have j:=qH<|λk=>eu l k;go_enter func162,ntmps162;go_wp2;go_loop[3,4] (λt i=>∃k:Nat,k<=l.length/\i=Iq k/\t=.string ⟨(aB (l.take k)).toArray⟩) (λ_ i=>l.length-(intOf i).toNat);case atStart=>exact⟨0,aR _,rfl,rfl⟩
 case round=>
  obtain⟨k,z,rfl,rfl⟩:=hrel;by_cases f:k<l.length
  ·have g:(k:Int)<(l.length:Int):=dg
   have h:l≠[]:=λe=>rd;obtain⟨b,off,rfl,x,p⟩:=hh.resolve_left h;obtain⟨T,V,c⟩:∃T V,l[k]=(T,V):=⟨_,_,rfl⟩;have u:w.cell? (aj b (off+k*2))=some (.string ⟨T.toArray⟩):=by have:=(p k f).1;rw[c]at this;exact this
   have m:Hid (aB (l.take (k+1))=aB (l.take k)++T):=by show _=_;rw[oR l k f,c]
   have d:=j (k+1);rw[m.out,aU]at d;obtain⟨Y,n⟩:=ad (aB (l.take k));rw[n]at m d;rw[n];clear hh p c h n;go_wp2;go_round;case rel=>exact⟨k+1,dg,by go_num,by rw[m.out,<-vJ]⟩
   case measure=>simp[intOf];omega
  ·have g:¬(k:Int)<(l.length:Int):=dg
   have r:Hid (l.take k=l):=eP dg;clear hh;go_wp2;go_ret;rw[r.out];simp_all
theorem jt(l:List (List UInt8×Int))(v:Value)(W:Int)(w:World)(y:lV w v l)(hbd:∀c∈l,0<=c.2/\c.2<=2)(D:l.length<=1099511627776):
 Cw 163 #[v,Iq W] w λe w'=>e=Rw (Iq (cR l W))/\w'=w:=by
 obtain⟨a,F,rfl,hh⟩:=y;have n:=qH<|hbd;clear hbd;go_enter func163,ntmps163;go_wp2;go_loop[5,6] (λi x=>∃k:Nat,k<=l.length/\i=Iq k/\x=Iq (ai (l.take k))/\Hid (Fit l W k)) (λi _=>l.length-(intOf i).toNat);case atStart=>exact⟨0,aR _,rfl,rfl,λj H=>dg⟩
 case round=>
  obtain⟨k,z,rfl,rfl,d⟩:=hrel;have A:=bB l n k;by_cases g:k<l.length
  ·have q:(k:Int)<(l.length:Int):=dg
   have r:l≠[]:=λe=>rd;obtain⟨b,off,rfl,J,u⟩:=hh.resolve_left r;obtain⟨T,V,f⟩:∃T V,l[k]=(T,V):=⟨_,_,rfl⟩;have C:=n l[k] (iE g);have I:w.cell? (aj b (off+k*2))=some (.string ⟨T.toArray⟩):=by have:=(u k g).1;rw[f]at this;exact this
   have c1:w.cell? (aj b (off+k*2+1))=some (Iq V):=by have:=(u k g).2;rw[f]at this;exact this
   have s:Hid (ai (l.take (k+1))=ai (l.take k)+V):=by show _=_;rw[wideSum_snoc l k g,f]
   have B:Hid (tx l k=T):=by show _=_;rw[sj g,f]
   rw[f]at C;obtain⟨X,t⟩:=ad (ai (l.take k));rw[t]at s A;rw[t];simp only at C;clear hh u f t r;by_cases m:T=[10]
   ·have o:=qH<|fitN_stop l W k z d (λ_=>.inl (by rw[B.out,m]));have p:(T==[10])=true:=by rw[m];rfl
    go_wp2;go_ret;rw[o.out];simp_all
   ·have p:(T==[10])=false:=by simpa using m
    by_cases G:X+V<=W
    ·have E:Hid (Fit l W (k+1)):=λj H=>by
      by_cases e:j=k;·subst e;rw[B.out,s.out];grind
      ·exact d j dg
     go_wp2;go_round;case rel=>exact⟨k+1,dg,by go_num,by rw[s.out],E⟩
     case measure=>simp[intOf];omega
    ·have o:=qH<|fitN_stop l W k z d (λ_=>.inr (by rw[s.out];omega));go_wp2;go_ret;rw[o.out];simp_all
  ·have q:¬(k:Int)<(l.length:Int):=dg
   have o:=qH<|fitN_stop l W k z d (λh=>absurd h g);clear hh;go_wp2;go_ret;rw[o.out];simp_all
theorem lk(l:List (List UInt8×Int))(v:Value)(w:World)(n:lV w v l)(hbd:∀c∈l,0<=c.2/\c.2<=2)(s:l.length<=1099511627776):
 Cw 161 #[v] w λe w'=>e=Rw (Iq (ai l))/\w'=w:=by
 obtain⟨a,x,rfl,hh⟩:=n;have g:=qH<|hbd;clear hbd;go_enter func161,ntmps161;go_wp2;go_loop[3,4] (λt i=>∃k:Nat,k<=l.length/\i=Iq k/\t=Iq (ai (l.take k))) (λ_ i=>l.length-(intOf i).toNat);case atStart=>exact⟨0,aR _,rfl,rfl⟩
 case round=>
  obtain⟨k,z,rfl,rfl⟩:=hrel;have o:=bB l g k;by_cases f:k<l.length
  ·have h:(k:Int)<(l.length:Int):=dg
   have j:l≠[]:=λe=>rd;obtain⟨b,off,rfl,y,r⟩:=hh.resolve_left j;obtain⟨T,V,d⟩:∃T V,l[k]=(T,V):=⟨_,_,rfl⟩;have q:=g l[k] (iE f);have c1:w.cell? (aj b (off+k*2+1))=some (Iq V):=by have:=(r k f).2;rw[d]at this;exact this
   have p:Hid (ai (l.take (k+1))=ai (l.take k)+V):=by show _=_;rw[wideSum_snoc l k f,d]
   rw[d]at q;obtain⟨X,m⟩:=ad (ai (l.take k));rw[m]at p o;rw[m];simp only at q;clear hh r d m j;go_wp2;go_round;case rel=>exact⟨k+1,dg,by go_num,by rw[p.out]⟩
   case measure=>simp[intOf];omega
  ·have h:¬(k:Int)<(l.length:Int):=dg
   have u:Hid (l.take k=l):=eP dg;clear hh;go_wp2;go_ret;rw[u.out];simp_all
theorem ng(s:ByteArray)(w:World)(k:s.size<=1099511627776):
 Cw 84 #[.string s] w λe w'=>e=Rw (Iq (ai (aG (ak s.data.toList))))/\Bt w w':=by
 have c:s.data.toList.length=s.size:=by rw[dZ];rfl
 have j:=aX s.data.toList;have i:=bu (ak s.data.toList);rw[c]at j;have a:=cE (ak s.data.toList);have G:Hid (Cw 44 #[.string s] w λe w'=>∃v,e=Rw v/\lV w' v (aG (ak s.data.toList))/\Bt w w'):=by refine(rClusters_any s w k).mono ?_;rintro e g ⟨v,rfl,o,b⟩;exact⟨v,rfl,pP o,b⟩
 obtain⟨l,f⟩:=ad (aG (ak s.data.toList));rw[f]at G i a⊢;have d:=qH<|a;clear f c a;go_enter func84,ntmps84;go_wp2_with fail;refine G.mono ?_;rintro e g ⟨v1,rfl,c1,m⟩;have h:=qH<|c1;clear c1 G;go_wp2_with fail;refine(lk l v1 g h d dg).mono ?_;rintro e n ⟨rfl,rfl⟩;go_wp2;go_ret;simp_all
