import Derived.Test.YtaanagpadfcmlaaGreatDoorQ41
import Derived.Test.YtaanagpadfcmlaaGreatDoorQ33
set_option linter.all false
set_option maxRecDepth 100000
set_option maxHeartbeats 16000000
namespace Go.Proofs.YtaanagpadfcmlaaGreatDoor
open Go.RowKit Go.Sort Go.Proofs.Tryz
def Gf(l:List (List UInt8)):List Value:=l.map λx=>.string ⟨x.toArray⟩
def wm(W:World)(p:Option Addr)(l:List (List UInt8)):Prop:=∃b,p=some (aj b 0)/\b<W.heap.size/\∀j x,l[j]?=some x->W.cell? (aj b j)=some (.string ⟨x.toArray⟩)
theorem wm.below{W W'}{p}{l}(h:wm W p l)(a:Bt W W'):wm W' p l:=by obtain⟨b,e,h1,c⟩:=h;exact⟨b,e,zz007 h1 a.size,λj x d=>(bf (a.block b h1)).trans (c j x d)⟩
def Na(w w':World)(t:List UInt8)(e:Ending):Prop:=∃p c,e=Rw (.slice p (bj t).length c)/\wm w' p (bj t)/\Bt w w'
theorem yj t:(bj t).length<=t.length+1:=by grind[fU]
theorem pW:(prog.info? 9).map (λi=>(i.zero,i.size,i.bytes))=some (some (.string ⟨#[]⟩),1,16):=ns
theorem w_(s:ByteArray)f i:s.extract f i=⟨((s.data.toList.drop f).take (i-f)).toArray⟩:=by apply kM;rw[ByteArray.data_extract];grind
theorem gZ(s:ByteArray)(w:World)(hs:s.size<=1000000):
 Cw 80 #[.string s] w λe w'=>Na w w' s.data.toList e:=by
 obtain⟨i0,hi,G,H,I⟩:=info_parts pW;obtain⟨n,T⟩:=ad s.size;have E:s.data.toList.length=n:=by rw[<-T];rfl
 have t:Hid (s.data.toList.length=n/\s.size=n):=⟨E,T⟩;rw[T]at hs;clear E;go_enter func80,ntmps80;go_wp2;go_loopw[3,4,5] (λv fv V wr=>∃(f i:Nat) (d:List (List UInt8)),V=Iq (i:Int)/\fv=Iq (f:Int)/\i<=n+1/\f<=i/\d.length<=i/\wr.ownsRow w.heap.size 9 1 v d.length (Gf d)/\Bt w wr/\Hid ((i<=n/\d++bj (s.data.toList.drop f)=bj s.data.toList/\∀x∈(s.data.toList.drop f).take (i-f),x≠10)\/(i=n+1/\d=bj s.data.toList))) (λ_ _ V _=>n+1-(intOf V).toNat);case atStart=>exact⟨0,0,[],rfl,rfl,dg,dg,ae _,eO _ _ _ _,af _ _,.inl ⟨dg,rfl,rn⟩⟩
 case round=>
  obtain⟨f,i,d,rfl,rfl,zj,zh,ze,l,m,J⟩:=hrel;by_cases zk:i<=n
  ·have D:(i:Int)<=(n:Int):=dg
   obtain⟨L,u⟩:Hid (d++bj (s.data.toList.drop f)=bj s.data.toList)/\Hid (∀x∈(s.data.toList.drop f).take (i-f),x≠10):=by rcases J.out with⟨_,a,b⟩|⟨a,_⟩;all_goals grind
   have zm:=m.size;clear J;by_cases Q:i=n
   ·have e1:((i:Int)==(n:Int))=true:=by rw[Q];simp
    have M:Hid (d++[(s.data.toList.drop f).take (i-f)]=bj s.data.toList):=by have h1:(s.data.toList.drop f).take (i-f)=s.data.toList.drop f:=eP (by simp_all);have Y:=u.out;rw[h1]at Y;have C:=L.out;rw[paras_one _ Y]at C;show _=_;rw[h1];exact C
    have zc:=qH<|Q;clear Q;go_wp2_with(at_builtin;refine Gn hi G H I l m [.string (s.extract f i)] rfl _ _ rfl underlying113 ⟨rfl,by decide,by decide⟩ rfl rfl ⟨rfl,rfl⟩ dg ?_);intro W X k y;have o:X.ownsRow w.heap.size 9 1 W (d++[(s.data.toList.drop f).take (i-f)]).length (Gf (d++[(s.data.toList.drop f).take (i-f)])):=by rw[aU];unfold Gf;rw[kQ];rw[w_]at k;exact k
    clear l m k;go_wp2;go_roundw;case rel=>exact⟨i+1,i+1,d++[(s.data.toList.drop f).take (i-f)],by go_num,by go_num,dg,ae _,by simp;omega,o,y,.inr ⟨rd,M⟩⟩
    grind[intOf]
   ·have F:i<n:=dg
    have za:(i:Int)<(n:Int):=dg;have e1:((i:Int)==(n:Int))=false:=by simp;omega
    have zl:i<s.size:=by rw[t.2];exact F
    have A:Hid (s.data.toList.drop i=s[i]::s.data.toList.drop (i+1)):=by
     have S:i<s.data.toList.length:=by rw[t.1];exact F
     have:=sC S;show _=_;rw[this];rfl
    obtain⟨b,K⟩:=ad (s[i]);rw[K]at A;have P:Hid ((s.data.toList.drop f).take (i+1-f)=(s.data.toList.drop f).take (i-f)++[b]):=by
     have h1:s.data.toList.drop f=(s.data.toList.drop f).take (i-f)++s.data.toList.drop i:=by have:=(fy (i-f) (s.data.toList.drop f)).symm;rw[sG,show f+(i-f)=i by omega]at this;exact this
     have Z:((s.data.toList.drop f).take (i-f)).length=i-f:=by rw[b_,cL,t.1];omega
     show _=_;conv=>lhs;rw[h1,A.out]
     rw[List.take_append,Z,show i+1-f-(i-f)=1 by omega,eP (by rw[Z];omega)];rfl
    obtain⟨c,r⟩:∃z:Int,(b.toNat:Int)=z:=⟨_,rfl⟩;have zg:(s[i].toNat:Int)=c:=by rw[K];exact r
    by_cases p:b=10
    ·have e2:(c==10)=true:=by rw[<-r,p];rfl
     have M:Hid ((d++[(s.data.toList.drop f).take (i-f)])++bj (s.data.toList.drop (i+1))=bj s.data.toList):=by
      have h1:s.data.toList.drop f=(s.data.toList.drop f).take (i-f)++10::s.data.toList.drop (i+1):=by have:=(fy (i-f) (s.data.toList.drop f)).symm;rw[sG,show f+(i-f)=i by omega,A.out,p]at this;exact this
      have C:=L.out;rw[h1,ou _ _ u.out]at C;show _=_;rw[cM];exact C
     clear K p A P r;go_wp2_with(at_builtin;refine Gn hi G H I l m [.string (s.extract f i)] rfl _ _ rfl underlying113 ⟨rfl,by decide,by decide⟩ rfl rfl ⟨rfl,rfl⟩ dg ?_);intro W X k y;have o:X.ownsRow w.heap.size 9 1 W (d++[(s.data.toList.drop f).take (i-f)]).length (Gf (d++[(s.data.toList.drop f).take (i-f)])):=by rw[aU];unfold Gf;rw[kQ];rw[w_]at k;exact k
     clear l m k;go_wp2;go_roundw;case rel=>exact⟨i+1,i+1,d++[(s.data.toList.drop f).take (i-f)],by go_num,by go_num,dg,ae _,by simp;omega,o,y,.inl ⟨dg,M,rn⟩⟩
     grind[intOf]
    ·have e2:(c==10)=false:=by rw[<-r];simp;intro q;exact p (UInt8.toNat_inj.1 rd)
     have N:Hid (∀x∈(s.data.toList.drop f).take (i+1-f),x≠10):=by
      show∀x,_;rw[P.out];intro x U;rcases gF.1 U with h|h;·exact u x h
      ·grind
     clear K p A P r;go_wp2;go_roundw;case rel=>exact⟨f,i+1,d,by go_num,rfl,dg,dg,dg,l,m,.inl ⟨dg,L,N⟩⟩
     grind[intOf]
  ·have D:¬(i:Int)<=(n:Int):=dg
   obtain rfl:d=bj s.data.toList:=by rcases J.out with⟨a,_⟩|⟨_,a⟩;all_goals omega
   have zb:0<(bj s.data.toList).length:=by rw[fU];omega
   obtain⟨g,B,hv,zi,R,_⟩:∃g B,u3=Sq g (bj s.data.toList).length B/\w.heap.size<=g/\g<wr.heap.size/\True:=by grind[cU]
   subst hv;have O:Hid (wm wr (some (aj g 0)) (bj s.data.toList)):=⟨g,rfl,R,λj x U=>by have hj:=(lQ.1 U).1;rw[l.cellAt j dg];grind[Gf]⟩;have HB:=qH<|m;clear l m J;go_wp2;go_ret;exact⟨_,_,rfl,O,HB⟩
