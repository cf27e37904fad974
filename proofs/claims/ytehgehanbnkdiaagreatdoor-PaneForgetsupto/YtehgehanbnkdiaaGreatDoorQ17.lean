import Derived.Shelf.Utf8.AppendRunePlain
import Derived.Test.YtehgehanbnkdiaaGreatDoorProg
import Derived.BigQuiet
import Derived.Test.YtehgehanbnkdiaaGreatDoorQ02
import Derived.Test.YtehgehanbnkdiaaGreatDoorQ15
import Derived.Lib.BufferRead
set_option linter.all false
set_option maxRecDepth 100000
set_option maxHeartbeats 16000000
namespace Go.Proofs.YtehgehanbnkdiaaGreatDoor
open Go.RowKit Go.Proofs.Tryz
section
open Go.Shelf
def vw:Go.Shelf.Ren:=⟨fun|242=>341|278=>361|n=>n,fun|37=>158|21=>21|51=>277|4=>4|5=>5|46=>203|n=>n,fun|n=>n⟩
theorem Lb:Go.Proofs.Lays.n242 prog vw:={
 mixed:=pt
 f242:=func341.trans (congrArg some pt)
 f278:=func361.trans (congrArg some pt)
 t4:=underlying4
 a4:=isAgg4
 z4:=sizeOf4
 v4:=zeroValue4
 t5:=underlying5
 a5:=isAgg5
 z5:=sizeOf5
 v5:=zeroValue5
 t21:=underlying21
 a21:=isAgg21
 z21:=sizeOf21
 v21:=zeroValue21
 t37:=underlying158
 a37:=isAgg158
 z37:=sizeOf158
 v37:=zeroValue158
 t46:=underlying203
 a46:=isAgg203
 z46:=sizeOf203
 v46:=zeroValue203
 t51:=underlying277
 a51:=isAgg277
 z51:=sizeOf277
 v51:=zeroValue277}
theorem oJ B v n g r(d:-2147483648<=r)(f:r<=2147483647)w(b:w.ownsRow B 5 1 v n g)(a:n+4<=140737488355328)(c:B<=w.heap.size):
 Cw 341 #[v,.int .i32 r] w λe w'=>∃h,e=Rw h/\w'.ownsRow B 5 1 h (n+(Lib.runeCells r).length) (g++Lib.runeCells r)/\∃o,(w.alloc o).grownBy w' v.ownBlock:=Any.utf8_AppendRune_plain Lb pt B v n g r d f w b a c
end
def enc(zs:zzc):List UInt8:=zs.flatMap Lib.encodeRune
theorem Fw(a:zzc)k(h:k<a.length):enc (a.take (k+1))=enc (a.take k)++Lib.encodeRune (a[k]?.getD 0):=by unfold enc;rw[gW h,List.flatMap_append];simp[h]
theorem gp r:(Lib.encodeRune r).length<=4:=by have:=(Lib.runeCells_le r).2;rwa[Lib.runeCells_length]at this
theorem ta a:(enc a).length<=4*a.length:=by
 induction a with
 |nil=>simp[enc]
 |cons z a b=>grind[gp,enc]
theorem Mb(a:zzc)k(h:k<=a.length):(enc (a.take k)).length<=4*k:=by grind[ta]
theorem md n:Lib.encodeRune (lM n)=Lib.encodeRune n:=by unfold Lib.encodeRune;rw[tc]
theorem uB{w}{B n}{v}{l}(h:w.ownsRow B 5 1 v n (Lib.byteCells l)):
 (convert 158 9 v).run prog w=.ok (.string ⟨l.toArray⟩) w:=by
 obtain⟨i,d⟩:=h;rw[Lib.byteCells_length]at i;rcases d with⟨rfl,rfl⟩|⟨g,a,c,rfl,_,f,_,_,_,b⟩;·have:=iG.1 dg;subst this;exact Lib.run_convert_nil_bytes w 158 9 5 0 underlying158 underlying5 underlying9
 ·have e:n=l.length:=dg
  subst e;exact run_convert_bytes_back w 158 9 5 (aq g 0) a l underlying158 underlying5 underlying9 (Lib.bytes_of_row f rn)
theorem Hh{w:AT}{B}{v}{l}{r}(h:w.ownsRow B 5 1 v (l.length+(Lib.runeCells r).length) (Lib.byteCells l++Lib.runeCells r)):
 w.ownsRow B 5 1 v (l++Lib.encodeRune r).length (Lib.byteCells (l++Lib.encodeRune r)):=by rw[Lib.byteCells_append,Lib.byteCells_encodeRune,aI,<-Lib.runeCells_length];exact h
theorem th(a:zzc)(b off n:Nat)(w:AT)(C:b<w.heap.size)(hc:∀j,j<a.length->w.cell? (aq b (off+j))=some (Iq (a[j]?.getD 0)))(z:a.length<=17592186044416):
 Cw 320 #[.slice (some (aq b off)) a.length n] w λe w'=>e=Rw (.string ⟨(enc a).toArray⟩)/\Bq w w':=by
 have A:=qH<|hc;clear hc;go_enter func320,ntmps320;go_wp2;go_loopw[3,8] (λv i wr=>∃k:Nat,k<=a.length/\i=Iq k/\wr.ownsRow w.heap.size 5 1 v (enc (a.take k)).length (Lib.byteCells (enc (a.take k)))/\Bq w wr) (λ_ i _=>a.length-(intOf i).toNat);case atStart=>exact⟨0,aP _,rfl,by simpa[enc,Lib.byteCells]using ga _ _ _ _,ac _ _⟩
 case round=>
  obtain⟨k,E,rfl,c,d⟩:=hrel;have G:=Mb a k E;by_cases h:k<a.length
  ·obtain⟨x,t⟩:=af (a[k]?.getD 0);have s:wr.cell? (aq b (off+k))=some (Iq x):=by rw[<-t];exact(d.cell (p:=(aq b (off+k))) C).trans (A k h)
   have I:=Ib x;have m:=d.size;have B:Hid (enc (a.take (k+1))=enc (a.take k)++Lib.encodeRune (lM x)):=by show _=_;rw[Fw a k h,t,md]
   clear t;have l:(k:Int)<(a.length:Int):=dg;go_wp2_with(first|(go_at_call 342;refine(yR _ _).mono ?_;rintro e w' ⟨rfl,rfl⟩)|(go_at_call 341;refine(oJ w.heap.size _ _ _ _ dg dg _ c dg m).mono ?_));rintro e H ⟨J,rfl,g,o,y⟩;have f:=λq F=>(c.lt q F).1;have r:=(d.alloc m o).grown y (by simp;omega) f;clear s c y f d;go_wp2;go_roundw;case rel=>refine⟨k+1,dg,by go_num,?_,r⟩;rw[B.out];exact Hh g
   case measure=>simp[intOf];omega
  ·have u:k=a.length:=dg
   have l:¬(k:Int)<(a.length:Int):=dg;rw[u,kq]at c;have D:=uB c;clear u;go_wp2;go_ret;simp_all
def Sc(r:Int):Prop:=(0<=r/\r<55296)\/(57343<r/\r<=1114111)
def Good(r:Int):Prop:=Sc r/\ek r=r
theorem eR l t k(h:k<l.length):bD (l++t) k=(l.getD k 0).toNat:=by grind[bD]
theorem Jm(x:Int)(a:0<=x)(b:x<256):(x.toNat.toUInt8).toNat=x.toNat:=by simp;omega
theorem JM r(h:Sc r)t:qK (Lib.encodeRune r++t)=(r.toNat,(Lib.encodeRune r).length):=by
 unfold Sc at h;by_cases a:0<=r/\r<=127
 ·have e:Lib.encodeRune r=[r.toNat.toUInt8]:=by unfold Lib.encodeRune;rw[Lib.encodeRuneZ_one a.1 a.2];rfl
  rw[e];have g:bD ([r.toNat.toUInt8]++t) 0=r.toNat:=by rw[eR _ _ _ At];exact Jm r dg dg
  rw[AN _ (by rw[g];omega),g];rfl
 by_cases b:128<=r/\r<=2047
 ·have e:Lib.encodeRune r=[(192+r/64).toNat.toUInt8,(128+r %64).toNat.toUInt8]:=by unfold Lib.encodeRune;rw[Lib.encodeRuneZ_two b.1 b.2];rfl
  rw[e];generalize f:[(192+r/64).toNat.toUInt8,(128+r %64).toNat.toUInt8]++t=l;have g:bD l 0=(192+r/64).toNat:=by rw[<-f,eR _ _ _ At];exact Jm _ dg dg
  have i:bD l 1=(128+r %64).toNat:=by rw[<-f,eR _ _ _ At];exact Jm _ dg dg
  have c1:=(fo l 1).2 ⟨by rw[<-f];simp,dg,dg⟩;unfold qK;rw[if_neg dg,if_pos (by rw[c1,g];simp;omega),if_pos dg,g,i];simp;omega
 by_cases c:(2048<=r/\r<55296)\/(57343<r/\r<=65535)
 ·have e:Lib.encodeRune r=[(224+r/4096).toNat.toUInt8,(128+r/64 %64).toNat.toUInt8,(128+r %64).toNat.toUInt8]:=by unfold Lib.encodeRune;rw[Lib.encodeRuneZ_three c];rfl
  rw[e];generalize f:[(224+r/4096).toNat.toUInt8,(128+r/64 %64).toNat.toUInt8,(128+r %64).toNat.toUInt8]++t=l;have g:bD l 0=(224+r/4096).toNat:=by rw[<-f,eR _ _ _ At];exact Jm _ dg dg
  have i:bD l 1=(128+r/64 %64).toNat:=by rw[<-f,eR _ _ _ At];exact Jm _ dg dg
  have n:bD l 2=(128+r %64).toNat:=by rw[<-f,eR _ _ _ At];exact Jm _ dg dg
  have c1:=(fo l 1).2 ⟨by rw[<-f];simp,dg,dg⟩;have c2:=(fo l 2).2 ⟨by rw[<-f];simp,dg,dg⟩;have m:bD l 0 %16*4096+bD l 1 %64*64+bD l 2 %64=r.toNat:=dg
  have j:¬(bD l 0/32==6&&cnt l 1)=true:=by simp;omega
  have k:(bD l 0/16==14&&cnt l 1&&cnt l 2)=true:=by simp[c1,c2];omega
  unfold qK;grind[dX]
 ·have d:65536<=r/\r<=1114111:=dg
  have e:Lib.encodeRune r=[(240+r/262144).toNat.toUInt8,(128+r/4096 %64).toNat.toUInt8,(128+r/64 %64).toNat.toUInt8,(128+r %64).toNat.toUInt8]:=by unfold Lib.encodeRune;rw[Lib.encodeRuneZ_four d.1 d.2];rfl
  rw[e];generalize f:[(240+r/262144).toNat.toUInt8,(128+r/4096 %64).toNat.toUInt8,(128+r/64 %64).toNat.toUInt8,(128+r %64).toNat.toUInt8]++t=l;have g:bD l 0=(240+r/262144).toNat:=by rw[<-f,eR _ _ _ At];exact Jm _ dg dg
  have i:bD l 1=(128+r/4096 %64).toNat:=by rw[<-f,eR _ _ _ At];exact Jm _ dg dg
  have n:bD l 2=(128+r/64 %64).toNat:=by rw[<-f,eR _ _ _ At];exact Jm _ dg dg
  have p:bD l 3=(128+r %64).toNat:=by rw[<-f,eR _ _ _ At];exact Jm _ dg dg
  have c1:=(fo l 1).2 ⟨by rw[<-f];simp,dg,dg⟩;have c2:=(fo l 2).2 ⟨by rw[<-f];simp,dg,dg⟩;have c3:=(fo l 3).2 ⟨by rw[<-f];simp,dg,dg⟩;have m:bD l 0 %8*262144+bD l 1 %64*4096+bD l 2 %64*64+bD l 3 %64=r.toNat:=dg
  have j:¬(bD l 0/32==6&&cnt l 1)=true:=by simp;omega
  have k:¬(bD l 0/16==14&&cnt l 1&&cnt l 2)=true:=by simp;omega
  have o:(bD l 0/8==30&&cnt l 1&&cnt l 2&&cnt l 3)=true:=by simp[c1,c2,c3];omega
  unfold qK;rw[if_neg dg,if_neg j,if_neg k,if_pos o,m,if_pos];·rfl
  ·simp only[xq,decide_eq_true_eq,dX];omega
theorem Fv r R:enc (r::R)=Lib.encodeRune r++enc R:=by simp[enc]
theorem qL r t:Lib.encodeRune r++t≠[]:=by intro e;have:=(Lib.runeCells_le r).1;rw[Lib.runeCells_length]at this;have h:=congrArg List.length e;simp only[aI,en]at h;omega
theorem DJ R(h:∀r∈R,Good r):aA (enc R)=R:=by
 induction R with
 |nil=>simp[enc,jF]
 |cons r R f=>
  have b:=h r At;have hd:=JM r b.1 (enc R);have c:0<=r:=by rcases b.1 with a|a<;>omega
  rw[Fv,ip (qL r _),hd,List.drop_left,f (λx d=>h x (by simp[d]))];have e:ek ((r.toNat:Nat):Int)=r:=by rw[I6 c];exact b.2
  rw[e]
theorem NH l:Sc ((qK l).1:Int):=by grind[l_,Sc,qK,bD,cnt,dX]
theorem yW r(h:Sc r):Good (ek r):=by grind[Good,Sc,ek]
theorem yS l:∀r∈aA l,Good r:=by
 generalize d:l.length=n;induction n using Nat.strongRecOn generalizing l with
 |_ n b=>
  by_cases h:l=[];·subst h;rw[jF];simp
  ·rw[ip h];have e:=li l;have c:=iF.2 h;intro r a;rcases jX.1 a with rfl|a;·exact yW _ (NH l)
   ·exact b (l.drop (qK l).2).length (by rw[de];omega) _ rfl r a
def eW(r:Int):Bool:=decide (r≠10/\mM r=0)
theorem u_ r:eW r=true↔r≠10/\mM r=0:=by simp[eW]
theorem pl r:eW r=false↔¬(r≠10/\mM r=0):=by grind[u_,eW]
theorem jh{α:Type}p(l:List α)k(g:k<=l.length)(h:∀j (b:j<l.length),j<k->p l[j]=true)(f:∀b,p l[k]=false):l.takeWhile p=l.take k:=by
 induction l generalizing k with
 |nil=>simp
 |cons a l e=>
  cases k with
  |zero=>simp_all
  |succ k=>have c:=h 0 At dg;simp at c;simp only[List.takeWhile_cons,c,if_true,List.take_succ_cons];rw[e k rn (λj b d=>rn) (λb=>rn)]
def Be(R:zzc):List Int:=R.takeWhile eW
theorem Oz R:(Be R).length<=R.length:=(List.takeWhile_sublist _).length_le
def ez(R:zzc):Int:=match R with|[]=>32|r::_=>if eW r=true then 32 else r
def qE(R:zzc):Nat:=match R with|[]=>0|r::_=>if eW r=true then 0 else 1
def dn(R:zzc):List Int:=Be (R.drop (qE R))
def fV(R:zzc):Nat:=match R with|[]=>0|r::_=>if r=10 then 1 else qE R+(dn R).length
def dT(R:zzc):List UInt8:=match R with|[]=>[]|r::_=>if r=10 then[10]else enc (ez R::(dn R).take 4)
def eU(R:zzc):Int:=match R with|[]=>0|r::_=>if r=10 then 0 else mM (ez R)
theorem dp{R}(h:R≠[]):1<=fV R:=by
 match R,h with
 |r::t,_=>
  simp only[fV];split;·omega
  ·by_cases a:eW r=true;all_goals simp_all[qE,dn,Be]
theorem Az R:fV R<=R.length:=by
 match R with
 |[]=>simp[fV]
 |r::t=>grind[fV,Oz,qE,dn]
def rB:Nat->List Int->List (List UInt8×Int)
 |0,_=>[]
 |_+1,[]=>[]
 |f+1,r::t=>(dT (r::t),eU (r::t))::rB f ((r::t).drop (fV (r::t)))
theorem lh:∀  f g   l,l.length<=f->l.length<=g->rB f l=rB g l
 |0,0,_,_,_=>rfl
 |0,g+1,l,h,_=>by have:l=[]:=iG.1 dg;subst this;rfl
 |f+1,0,l,_,h=>by have:l=[]:=iG.1 dg;subst this;rfl
 |f+1,g+1,[],_,_=>rfl
 |f+1,g+1,r::t,a,b=>by have c:=dp (R:=r::t) At;simp only[cN]at a b;simp only[rB];rw[lh f g _ rn rn]
def aZ(R:zzc):List (List UInt8×Int):=rB R.length R
theorem fF:aZ []=[]:=rfl
theorem dU{R}(h:R≠[]):aZ R=(dT R,eU R)::aZ (R.drop (fV R)):=by
 cases R with
 |nil=>grind
 |cons r t=>grind[dp,rB,aZ,lh]
theorem bS R:(aZ R).length<=R.length:=by
 generalize b:R.length=n;induction n using Nat.strongRecOn generalizing R with
 |_ n d=>
  by_cases h:R=[];·grind[fF]
  ·rw[dU h];have c:=dp h;have a:=iF.2 h;grind
theorem Eb:mM 32=1:=by decide+kernel
theorem E9 R:0<=eU R/\eU R<=2:=by
 match R with
 |[]=>simp[eU]
 |r::t=>
  simp only[eU];split;·omega
  ·exact Iy _
theorem eI R:∀c∈aZ R,0<=c.2/\c.2<=2:=by
 generalize b:R.length=n;induction n using Nat.strongRecOn generalizing R with
 |_ n e=>
  by_cases h:R=[];·grind[fF]
  ·rw[dU h];have d:=dp h;have a:=iF.2 h;grind[E9,fV]
def ak(l:List (List UInt8×Int)):Int:=(l.map (·.2)).sum
theorem em(l:List (List UInt8×Int))k h:ak (l.take (k+1))=ak (l.take k)+(l[k]'h).2:=by unfold ak;rw[gW h,lU,IZ];grind
theorem cM(l:List (List UInt8×Int))(h:∀c∈l,0<=c.2/\c.2<=2)k:0<=ak (l.take k)/\ak (l.take k)<=2*k:=by
 induction k with
 |zero=>simp[ak]
 |succ k b=>
  by_cases a:k<l.length;·grind[em]
  ·rw[gT dg]at*;omega
def aY(w:AT):Prop:=∀i,i<26->w.cell? (aq 10 (i*3))=some (Iq (cA i).1)/\w.cell? (aq 10 (i*3+1))=some (Iq (cA i).2.1)/\w.cell? (aq 10 (i*3+2))=some (Iq (cA i).2.2)
theorem kE(r:Int)(w:AT)(v:aY w):
 Cw 321 #[Iq r] w λe w'=>e=Rw (Iq (mM r))/\w'=w:=by
 have x:=qH<|v;clear v;by_cases l:r=10;·subst l;rw[Mj];go_enter func321,ntmps321;go_wp2;go_ret;simp_all
 ·have q:(r==10)=false:=by simp[l]
  have o:Hid (r≠10):=l;clear l;go_enter func321,ntmps321;go_wp2;go_loop[3,4] (λa b=>∃lo hi:Nat,lo<=hi/\hi<=26/\a=Iq lo/\b=Iq hi/\Hid (sH r lo hi)) (λa b=>(intOf b-intOf a).toNat);case atStart=>exact⟨0,26,dg,dg,rfl,rfl,half_start r⟩
  case round=>
   obtain⟨lo,hi,C,z,rfl,rfl,hh⟩:=hrel;by_cases D:lo<hi
   ·have n:(lo:Int)<(hi:Int):=dg
    obtain⟨d,E⟩:∃d:Nat,d=(lo+hi)/2:=⟨_,rfl⟩;have t:((lo:Int)+(hi:Int))/2=(d:Int):=dg;have j:d<26:=dg;have u:lo<=d:=dg;have s:d<hi:=dg;clear E;obtain⟨y,c1,c2⟩:=x d j;obtain⟨a,b,c,hs⟩:∃a b c,cA d=(a,b,c):=⟨_,_,_,rfl⟩;rw[hs]at y c1 c2;have m:=qH<|hs;clear hs;have f:r<a->Hid (sH r lo d):=λh=>Df hh j (by rw[m.out];exact h);have g:b<r->Hid (sH r (d+1) hi):=λh=>FJ hh j (by rw[m.out];exact h);have i:Hid (a<=r->r<=b->mM r=c):=λh k=>by have:=IA r _ (yY j) (by rw[m.out];exact h) (by rw[m.out];exact k);rw[m.out]at this;exact this
    by_cases A:r<a
    ·have F:=f A;clear f g i hh;go_wp2;go_round;case rel=>grind
     case measure=>simp[intOf];omega
    ·by_cases B:b<r
     ·have G:=g B;clear f g i hh;go_wp2;go_round;case rel=>grind
      case measure=>simp[intOf];omega
     ·have p:=qH<|i dg dg;clear f g i hh;go_wp2;go_ret;rw[p.out];simp_all
   ·have n:¬(lo:Int)<(hi:Int):=dg
    have p:=qH<|half_end hh dg o;clear hh;go_wp2;go_ret;rw[p.out];simp_all
theorem qM(a:zze)(b:Nat)(w:AT):
 Cw 320 #[.slice a 0 b] w λe w'=>e=Rw (.string ⟨#[]⟩)/\Bq w w':=by
 have c:=uB (l:=[]) (show w.ownsRow w.heap.size 5 1 (.slice none 0 0) 0 (Lib.byteCells [])from ga w w.heap.size 5 1);go_enter func320,ntmps320;go_wp2;go_loop[3,8] (λv i=>v=.slice none 0 0/\i=Iq 0) (λ_ _=>0);case atStart=>grind
 case round=>obtain⟨rfl,rfl⟩:=hrel;go_wp2;go_ret;exact⟨rfl,ac _ _⟩
theorem mW f v w(h:oD w v f)(d:f.length<=17592186044416):
 Cw 320 #[v] w λe w'=>e=Rw (.string ⟨(enc f).toArray⟩)/\Bq w w':=by
 obtain⟨a,c,rfl,rfl|⟨b,off,rfl,g,i⟩⟩:=h;·exact qM a c w
 ·exact th f b off c w g i d
theorem mi{w}{B n}{v}{a}(h:w.ownsRow B 3 1 v n (a.map (Value.int .i64))):oD w v a:=by
 have c:a.length=n:=by have:=h.1;simpa using this
 rcases h.2 with⟨rfl,rfl⟩|⟨g,b,d,rfl,_,f,_⟩;·have k:=iG.1 c;subst k;exact⟨none,0,rfl,.inl rfl⟩
 ·refine⟨some (aq g 0),b,by rw[c],.inr ⟨g,0,rfl,(aj.1 f).1,λj i=>?_⟩⟩;have:=h.cells (g:=g) rfl j (Iq (a[j]?.getD 0)) (by simp[i]);have e:((aq g 0):Addr).add j=(aq g (0+j)):=by unfold Addr.add;split<;>simp_all
  grind
theorem yi:eW 32=false:=by rw[pl,Eb];simp
def dq(R:zzc):List Int:=match R with|[]=>[]|r::_=>if r=10 then[10]else ez R::(dn R).take 4
theorem JO:enc [10]=[10]:=by decide+kernel
theorem jo R:dT R=enc (dq R):=by
 match R with
 |[]=>rfl
 |r::t=>grind[dT,dq,JO]
def pJ:Nat->List Int->List Int
 |0,_=>[]
 |_+1,[]=>[]
 |f+1,r::t=>dq (r::t)++pJ f ((r::t).drop (fV (r::t)))
theorem lw:∀  f g   l,l.length<=f->l.length<=g->pJ f l=pJ g l
 |0,0,_,_,_=>rfl
 |0,g+1,l,h,_=>by have:l=[]:=iG.1 dg;subst this;rfl
 |f+1,0,l,_,h=>by have:l=[]:=iG.1 dg;subst this;rfl
 |f+1,g+1,[],_,_=>rfl
 |f+1,g+1,r::t,a,b=>by have c:=dp (R:=r::t) At;simp only[cN]at a b;simp only[pJ];rw[lw f g _ rn rn]
def yy(R:zzc):List Int:=pJ R.length R
theorem vK:yy []=[]:=rfl
theorem rR{R}(h:R≠[]):yy R=dq R++yy (R.drop (fV R)):=by
 cases R with
 |nil=>exact absurd rfl h
 |cons r t=>have a:=dp (R:=r::t) At;show pJ (t.length+1) (r::t)=_;simp only[pJ,yy];rw[lw t.length _ _ (by rw[de,cN];omega) (ad _)]
theorem JN a b:enc (a++b)=enc a++enc b:=by simp[enc]
def aF(l:List (List UInt8×Int)):List UInt8:=l.flatMap (·.1)
theorem ym R:aF (aZ R)=enc (yy R):=by
 generalize c:R.length=n;induction n using Nat.strongRecOn generalizing R with
 |_ n a=>
  by_cases h:R=[];·subst h;rw[fF,vK];rfl
  ·have d:=dp h;have b:=iF.2 h;have e:=a (R.drop (fV R)).length rn _ rfl;rw[dU h,rR h,JN,<-e,<-jo];rfl
def Pj(X:zzc):Prop:=∀x,X.head?=some x->eW x=false
theorem Lh M X(b:∀m∈M,eW m=true)(c:Pj X):Be (M++X)=M:=by
 unfold Be;rw[List.takeWhile_append_of_pos (λa d=>b a d)];cases X with
 |nil=>simp
 |cons x X=>have:=c x rfl;simp[this]
theorem Li L:∀m∈Be L,eW m=true:=by
 unfold Be;induction L with
 |nil=>simp
 |cons a L d=>
  intro m c;by_cases b:eW a=true;·rw[List.takeWhile_cons,if_pos b]at c;grind
  simp_all
theorem EX r t:eW (ez (r::t))=false:=by grind[ez,yi]
theorem Cq{r}{t}(h:r≠10):ez (r::t)≠10:=by grind[ez]
theorem Ff{R}(h:R≠[])X(l:Pj X):aZ (dq R++X)=(dT R,eU R)::aZ X:=by
 match R,h with
 |r::t,_=>
  by_cases a:r=10;·grind[dq,dT,eU,aZ,dU,fV]
  ·have g:dq (r::t)=ez (r::t)::(dn (r::t)).take 4:=by simp only[dq,if_neg a]
   have i:dT (r::t)=enc (ez (r::t)::(dn (r::t)).take 4):=by simp only[dT,if_neg a]
   have j:eU (r::t)=mM (ez (r::t)):=by simp only[eU,if_neg a]
   have n:=EX r t;have b:=Cq (t:=t) a;have k:∀m∈(dn (r::t)).take 4,eW m=true:=λm o=>Li _ m (nF o);have d:((dn (r::t)).take 4).length<=4:=by rw[cF];omega
   rw[g,i,j];generalize ez (r::t)=B at*;generalize(dn (r::t)).take 4=M at*;have c:¬eW B=true:=by rw[n];simp
   rw[kt,dU At];have e:qE (B::(M++X))=1:=by simp only[qE,if_neg c]
   have p:ez (B::(M++X))=B:=by simp only[ez,if_neg c]
   have f:dn (B::(M++X))=M:=by unfold dn;rw[e];exact Lh M X k l
   have q:fV (B::(M++X))=1+M.length:=by simp only[fV,if_neg b,e,f]
   have s:dT (B::(M++X))=enc (B::M):=by simp only[dT,if_neg b,p,f];rw[gT d]
   grind[eU,mM]
theorem xY:Good 32:=⟨.inl dg,rfl⟩
theorem un R(h:∀r∈R,Good r):∀r∈dq R,Good r:=by
 match R with
 |[]=>grind[dq]
 |r::t=>
  intro x a;simp only[dq]at a;split at a;·grind
  ·rcases jX.1 a with rfl|a;·grind[ez,xY]
   ·have b:=nF a;unfold dn Be at b;have c:=(List.takeWhile_sublist _).subset b;grind
theorem gn R:(dq R).length<=5:=by
 match R with
 |[]=>simp[dq]
 |r::t=>grind[dq]
theorem vJ R:(yy R).length<=5*R.length:=by
 generalize a:R.length=n;induction n using Nat.strongRecOn generalizing R with
 |_ n b=>by_cases h:R=[];all_goals grind[vK,dp,Az,fV,gn,rR]
theorem jQ s:(aF (aZ (aA s))).length<=20*s.length:=by have a:=ta (yy (aA s));have b:=vJ (aA s);have c:=bm s;rw[ym];omega
theorem vd(l:List (List UInt8×Int))k h:aF (l.take (k+1))=aF (l.take k)++(l[k]'h).1:=by unfold aF;rw[gW h,List.flatMap_append];simp
theorem fJ l k:(aF (l.take k)).length<=(aF l).length:=by unfold aF;have e:=(eH k l).symm;grind
def tx(l:List (List UInt8×Int))(n:Nat):List UInt8:=(l[n]?.map (·.1)).getD []
theorem BI{l}{n}(h:n<l.length):tx l n=(l[n]).1:=by simp[tx,h]
theorem xb a b:ak (a++b)=ak a+ak b:=by grind[ak]
theorem dC c b:ak (c::b)=c.2+ak b:=by simp[ak]
theorem mZ c b:aF (c::b)=c.1++aF b:=by simp[aF]
theorem pu a b:aF (a++b)=aF a++aF b:=by simp[aF]
def da:List (List UInt8×Int)->Int->Nat
 |[],_=>0
 |c::t,w=>if c.1=[10]\/w<c.2 then 0 else da t (w-c.2)+1
theorem jp:∀  l   w,da l w<=l.length
 |[],_=>ad _
 |c::t,w=>by
  simp only[da];split;·simp
  ·have:=jp t (w-c.2);grind
def Fit(l:List (List UInt8×Int))(w:Int)(k:Nat):Prop:=∀j,j<k->tx l j≠[10]/\ak (l.take (j+1))<=w
theorem fitN_stop:∀  l   w   k,k<=l.length->Fit l w k->(k<l.length->tx l k=[10]\/w<ak (l.take (k+1)))->da l w=k
 |[],w,k,e,_,_=>by grind[da]
 |c::t,w,0,_,_,d=>by grind[tx,dC,ak,da]
 |c::t,w,k+1,e,b,d=>by
  have a:=b 0 dg;simp only[tx,List.take_succ_cons,List.take_zero,dC,B7,Option.map_some,I0,show ak []=0 from rfl,Int.add_zero]at a;have f:¬(c.1=[10]\/w<c.2):=by rintro(h|h);exact a.1 h;omega
  simp only[da,if_neg f];rw[fitN_stop t (w-c.2) k rn (λj g=>by have:=b (j+1) dg;grind[dC,tx]) (λh=>by grind[dC,tx])]
theorem rE:∀  l   w,(∀c∈l,0<=c.2/\c.2<=2)->Fit l w (da l w)/\(da l w<l.length->tx l (da l w)=[10]\/w<ak (l.take (da l w+1)))
 |[],w,_=>⟨λj a=>by simp[da]at a,λh=>by simp at h⟩
 |c::t,w,b=>by
  by_cases h:c.1=[10]\/w<c.2;·simp only[da,if_pos h];refine⟨λj a=>dg,λ_=>?_⟩;grind[tx,ak]
  ·have e:=rE t (w-c.2) (λx d=>b x (by simp[d]));simp only[da,if_neg h];have f:=not_or.1 h;refine⟨λj a=>?_,λg=>?_⟩;·cases j with
    |zero=>grind[tx,ak]
    |succ j=>have:=e.1 j dg;grind[dC,tx]
   grind[dC,tx]
def dH(l:List (List UInt8×Int)):Nat->Int
 |0=>-1
 |n+1=>if tx l n=[32]then n else dH l n
theorem pE l:∀n,dH l n<n/\-1<=dH l n
 |0=>by simp[dH]
 |n+1=>by have:=pE l n;grind[dH]
structure Rz where
 n:Nat
 d:Nat
 e:Int
def aQ(r:List (List UInt8×Int))(w:Int):Rz:=
 if da r w=r.length then⟨da r w,0,3⟩
 else if tx r (da r w)=[10]then⟨da r w,1,2⟩
 else if da r w=0 then⟨1,0,1⟩
 else if tx r (da r w)=[32]then⟨da r w,1,0⟩
 else if 0<=dH r (da r w)then⟨(dH r (da r w)).toNat,1,0⟩
 else⟨da r w,0,1⟩
theorem rC r w:(aQ r w).n+(aQ r w).d<=r.length:=by have h:=jp r w;have a:=pE r (da r w);grind[aQ]
theorem xT r w:(aQ r w).e=3\/1<=(aQ r w).n+(aQ r w).d:=by grind[aQ]
structure Ln where
 T:List UInt8
 W:Int
 F:Nat
 N:Nat
 E:Int
def dZ(l:List (List UInt8×Int))(w:Int)(a:Nat):Ln:=
 let c:=aQ (l.drop a) w
 let r:=(l.drop a).take c.n
 if w<ak r then⟨List.replicate w.toNat 32,w,a,1,c.e⟩else⟨aF r,ak r,a,r.length,c.e⟩
def Eg(l:List (List UInt8×Int))(w:Int)(a:Nat):Nat:=a+(aQ (l.drop a) w).n+(aQ (l.drop a) w).d
theorem yA l w a(h:a<=l.length):Eg l w a<=l.length:=by have:=rC (l.drop a) w;grind[Eg]
theorem Ox l w a:(dZ l w a).E=(aQ (l.drop a) w).e:=by grind[dZ]
theorem nxt_lt l w a(h:(dZ l w a).E≠3):a<Eg l w a:=by grind[Ox,xT,Eg]
def ib:Nat->List (List UInt8×Int)->Int->Nat->List Ln
 |0,_,_,_=>[]
 |f+1,l,w,a=>if(dZ l w a).E=3 then[dZ l w a]else dZ l w a::ib f l w (Eg l w a)
theorem jS:∀  f g   l   w   a,a<=l.length->l.length<f+a->l.length<g+a->ib f l w a=ib g l w a
 |0,_,_,_,_,_,h,_=>dg
 |_+1,0,_,_,_,_,_,h=>dg
 |f+1,g+1,l,w,a,b,d,e=>by
  simp only[ib];split;·rfl
  ·rename_i c;have:=nxt_lt l w a c;rw[jS f g l w (Eg l w a) (yA l w a b) dg dg]
def dO(l:List (List UInt8×Int))(w:Int)(a:Nat):List Ln:=ib (l.length+1-a) l w a
theorem kI{l}{w}{a}(b:a<=l.length)(h:(dZ l w a).E=3):dO l w a=[dZ l w a]:=by unfold dO;rw[show l.length+1-a=(l.length-a)+1 by omega];grind[ib]
theorem na{l}{w}{a}(b:a<=l.length)(h:(dZ l w a).E≠3):dO l w a=dZ l w a::dO l w (Eg l w a):=by have c:=nxt_lt l w a h;have d:=yA l w a b;unfold dO;rw[show l.length+1-a=(l.length-a)+1 by omega];grind[ib,jS,Eg]
theorem eS l w a(b:a<=l.length):1<=(dO l w a).length/\(dO l w a).length<=l.length+1-a:=by
 generalize c:l.length-a=n;induction n using Nat.strongRecOn generalizing a with
 |_ n d=>grind[dZ,kI,nxt_lt,yA,na,Eg]
def bE(l:List (List UInt8×Int))(w:Int):List Ln:=if w<1 then[]else dO l w 0
theorem L8(a b:zzf):(⟨a.toArray⟩:BY)++(⟨b.toArray⟩:BY)=⟨(a++b).toArray⟩:=by apply jZ;simp
def one(l:List (List UInt8×Int)):List (List UInt8×Int):=l.map λc=>if c.1=[10]then([32],1)else c
theorem pN l:(one l).length=l.length:=by simp[one]
theorem Lr l:∀c∈one l,c.1≠[10]:=by intro c a;obtain⟨d,hd,rfl⟩:=km.1 a;grind
theorem oT R:∀c∈aZ R,c.1.length<=20:=by
 generalize b:R.length=n;induction n using Nat.strongRecOn generalizing R with
 |_ n e=>
  by_cases h:R=[];·grind[fF]
  ·have d:=dp h;have a:=iF.2 h;grind[dU,dT,jo,ta,dq,gn,fV]
theorem mj:∀  l,(∀c∈l,c.1.length<=20)->(aF l).length<=20*l.length
 |[],_=>by simp[aF]
 |c::l,h=>by have a:=mj l (λx b=>h x (by simp[b]));grind[mZ]
theorem Dz{l}(h:∀c∈l,c.1.length<=20):∀c∈one l,c.1.length<=20:=by intro c a;obtain⟨d,hd,rfl⟩:=km.1 a;grind
theorem G_{l}(h:∀c∈l,0<=c.2/\c.2<=2):∀c∈one l,0<=c.2/\c.2<=2:=by intro c a;obtain⟨d,hd,rfl⟩:=km.1 a;grind
theorem og l(h:∀c∈l,0<=c.2/\c.2<=2)k:ak (l.take k)<=ak l:=by
 have e:ak l=ak (l.take k)+ak (l.drop k):=by rw[<-xb,eH]
 have:=cM (l.drop k) (λc a=>h c (ku a)) (l.drop k).length;grind
theorem JR l W(h:∀c∈l,0<=c.2/\c.2<=2)(b:∀c∈l,c.1≠[10])(f:0<=W):da l W=l.length↔ak l<=W:=by
 have sp:=rE l W h;have i:=jp l W;constructor;·intro e;cases g:l.length with
  |zero=>have:=iG.1 g;subst this;exact f
  |succ n=>have:=(sp.1 n dg).2;grind
 ·intro e;by_cases a:da l W<l.length
  ·rcases sp.2 a with d|d;·grind[BI]
   ·have:=og l h (da l W+1);omega
  ·omega
theorem uX(w:AT)b c a(h:c=(b.map (Value.int .i64)).toArray):oD (w.alloc (.cells c 3)) (Sq w.heap.size b.length a) b:=by subst h;refine⟨_,a,rfl,.inr ⟨w.heap.size,0,rfl,At,λj d=>?_⟩⟩;simp_all
theorem so(w:AT):
 Cw 265 #[] w λe w'=>∃v,e=Rw v/\oD w' v (iT eQ)/\Bq w w':=by go_enter func265,ntmps265;go_wp2;go_ret;exact⟨_,rfl,uX w (iT eQ) _ 26 rfl,(ac _ _).alloc (ad _) _⟩
theorem Ec(w:AT):
 Cw 266 #[] w λe w'=>∃v,e=Rw v/\oD w' v (iT fS)/\Bq w w':=by go_enter func266,ntmps266;go_wp2;go_ret;exact⟨_,rfl,uX w (iT fS) _ 28 rfl,(ac _ _).alloc (ad _) _⟩
theorem uW(r:Int)(l:List (Int×Int))(E:l.length<=1000)(b off s:Nat)(w:AT)(y:∀j,j<(iT l).length->w.cell? (aq b (off+j))=some (Iq ((iT l)[j]?.getD 0))):
 Cw 264 #[Iq r,.slice (some (aq b off)) (iT l).length s] w λe w'=>e=Rw (.bool (FP r l))/\w'=w:=by
 have v:=qH<|y;clear y;have hfl:=mV l;have m:=qH<|hfl;rw[hfl];clear hfl;go_enter func264,ntmps264;go_wp2;go_loop[5] (λi=>∃k:Nat,k<=l.length/\i=Iq (2*k:Nat)/\Hid (∀j,j<k->¬((l.getD j (0,0)).1<=r/\r<=(l.getD j (0,0)).2))) (λi=>2*l.length-(intOf i).toNat);case atStart=>exact⟨0,aP _,rfl,λj h=>dg⟩
 case round=>
  obtain⟨k,D,rfl,d⟩:=hrel;by_cases n:k<l.length
  ·have o:(2*(k:Int))+1<2*(l.length:Int):=dg
   obtain⟨p,q,g⟩:∃p q,l.getD k (0,0)=(p,q):=⟨_,_,rfl⟩;have f:=JS l k;rw[g]at f;have C:w.cell? (aq b (off+2*k))=some (Iq p):=by rw[v (2*k) (by rw[m.out];omega),f.1]
   have c1:w.cell? (aq b (off+(2*k+1)))=some (Iq q):=by rw[v (2*k+1) (by rw[m.out];omega),f.2]
   have x:=qH<|g;have c:(p,q)∈l:=by rw[<-g,sC,cW n];exact iB n
   have z:=qH<|c;clear f g c;by_cases A:p<=r
   ·by_cases B:r<=q;·have e:=qH<|(ia r l).2 ⟨_,z,A,B⟩;go_wp2;go_ret;rw[e.out];simp_all
    ·go_wp2;go_round;case rel=>
      refine⟨k+1,dg,by go_num,λj u=>?_⟩;by_cases t:j=k;·subst t;rw[x.out];omega
      ·exact d j dg
     case measure=>simp[intOf];omega
   ·go_wp2;go_round;case rel=>
     refine⟨k+1,dg,by go_num,λj u=>?_⟩;by_cases t:j=k;·subst t;rw[x.out];omega
     ·exact d j dg
    case measure=>simp[intOf];omega
  ·have o:¬(2*(k:Int))+1<2*(l.length:Int):=dg
   have e:Hid (FP r l=false):=by show _=_;rw[Bool.eq_false_iff];intro h;obtain⟨p,g,a⟩:=(ia r l).1 h;obtain⟨j,u,rfl⟩:=lT.1 g;have:=d j dg;rw[sC,cW u]at this;exact this a
   go_wp2;go_ret;rw[e.out];simp_all
theorem kG r l(f:l.length<=1000)(c:0<l.length)v w(h:oD w v (iT l)):
 Cw 264 #[Iq r,v] w λe w'=>e=Rw (.bool (FP r l))/\w'=w:=by
 obtain⟨a,b,rfl,hh⟩:=h;have d:iT l≠[]:=λe=>by grind[mV]
 grind[uW]
theorem kP(r:Int)(w:AT):
 Cw 201 #[Iq r] w λe w'=>e=Rw (Iq (mM r))/\Bq w w':=by
 unfold mM;by_cases a:FP r eQ=true;·rw[if_pos a];have d:=qH<|a;clear a;go_enter func201,ntmps201;go_wp2_with fail;refine(so _).mono ?_;rintro e j ⟨v1,rfl,c,f⟩;go_wp2_with fail;refine(kG r eQ (by decide) (by decide) _ _ c).mono ?_;rintro e k ⟨rfl,rfl⟩;rw[d.out];go_wp2;go_ret;simp_all
 ·have d:Hid (FP r eQ=false):=by show _=_;simpa using a
  rw[if_neg a];clear a;by_cases b:FP r fS=true;focus rw[if_pos b];have g:=qH<|b
  rotate_left;focus rw[if_neg b];have g:Hid (FP r fS=false):=by show _=_;simpa using b
  rotate_left;all_goals clear b;go_enter func201,ntmps201;go_wp2_with fail;refine(so _).mono ?_;rintro e j ⟨v1,rfl,c,f⟩;go_wp2_with fail;refine(kG r eQ (by decide) (by decide) _ _ c).mono ?_;rintro e k ⟨rfl,rfl⟩;rw[d.out];clear c;go_wp2_with fail;refine(Ec _).mono ?_;rintro e w3 ⟨l,rfl,h,i⟩;go_wp2_with fail;refine(kG r fS (by decide) (by decide) _ _ h).mono ?_;rintro e m ⟨rfl,rfl⟩;rw[g.out];go_wp2;go_ret;exact⟨rfl,f.trans (i.mono f.size)⟩
