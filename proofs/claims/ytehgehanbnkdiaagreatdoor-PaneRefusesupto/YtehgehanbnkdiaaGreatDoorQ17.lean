import Derived.Shelf.Utf8.AppendRunePlain
import Derived.Test.YtehgehanbnkdiaaGreatDoorProg
import Derived.BigQuiet
import Derived.Test.YtehgehanbnkdiaaGreatDoorQ02
import Derived.Test.YtehgehanbnkdiaaGreatDoorQ15
import Derived.Lib.BufferRead
set_option linter.all false
set_option maxRecDepth 100000
set_option maxHeartbeats 16000000
namespace Go.Proofs.YtehgehanbnkdiaaGreatDoor
open Go.RowKit Go.Proofs.Tryz
section
open Go.Shelf
def vQ:Go.Shelf.Ren:=⟨fun|242=>341|278=>361|n=>n,fun|37=>158|21=>21|51=>277|4=>4|5=>5|46=>203|n=>n,fun|n=>n⟩
def Mg:Go.Proofs.Lays.n242 prog vQ:={
 mixed:=pt
 f242:=func341.trans (congrArg some pt)
 f278:=func361.trans (congrArg some pt)
 t4:=underlying4
 a4:=isAgg4
 z4:=sizeOf4
 v4:=zeroValue4
 t5:=underlying5
 a5:=isAgg5
 z5:=sizeOf5
 v5:=zeroValue5
 t21:=underlying21
 a21:=isAgg21
 z21:=sizeOf21
 v21:=zeroValue21
 t37:=underlying158
 a37:=isAgg158
 z37:=sizeOf158
 v37:=zeroValue158
 t46:=underlying203
 a46:=isAgg203
 z46:=sizeOf203
 v46:=zeroValue203
 t51:=underlying277
 a51:=isAgg277
 z51:=sizeOf277
 v51:=zeroValue277}
def oU B v n g r(d:-2147483648<=r)(f:r<=2147483647)w(b:w.ownsRow B 5 1 v n g)(a:n+4<=140737488355328)(c:B<=w.heap.size):
 Cw 341 #[v,.int .i32 r] w λe w'=>∃h,e=Rw h/\w'.ownsRow B 5 1 h (n+(Lib.runeCells r).length) (g++Lib.runeCells r)/\∃o,(w.alloc o).grownBy w' v.ownBlock:=Any.utf8_AppendRune_plain Mg pt B v n g r d f w b a c
end
def enc(zs:zzc):List UInt8:=zs.flatMap Lib.encodeRune
def Gv(a:zzc)k(h:k<a.length):enc (a.take (k+1))=enc (a.take k)++Lib.encodeRune (a[k]?.getD 0):=by unfold enc;rw[gx h,List.flatMap_append];simp[h]
theorem gF r:(Lib.encodeRune r).length<=4:=by have:=(Lib.runeCells_le r).2;rwa[Lib.runeCells_length]at this
theorem tA a:(enc a).length<=4*a.length:=by
 induction a with
 |nil=>simp[enc]
 |cons z a b=>grind[gF,enc]
def M_(a:zzc)k(h:k<=a.length):(enc (a.take k)).length<=4*k:=by grind[tA]
def mA n:Lib.encodeRune (ma n)=Lib.encodeRune n:=by unfold Lib.encodeRune;rw[tB]
def uR{w}{B n}{v}{l}(h:w.ownsRow B 5 1 v n (Lib.byteCells l)):
 (convert 158 9 v).run prog w=.ok (.string ⟨l.toArray⟩) w:=by
 obtain⟨i,d⟩:=h;rw[Lib.byteCells_length]at i;rcases d with⟨rfl,rfl⟩|⟨g,a,c,rfl,_,f,_,_,_,b⟩;.have:=iR.1 dg;subst this;exact Lib.run_convert_nil_bytes w 158 9 5 0 underlying158 underlying5 underlying9
 .have e:n=l.length:=dg;subst e;exact run_convert_bytes_back w 158 9 5 (aq g 0) a l underlying158 underlying5 underlying9 (Lib.bytes_of_row f rn)
def IK{w:AT}{B}{v}{l}{r}(h:w.ownsRow B 5 1 v (l.length+(Lib.runeCells r).length) (Lib.byteCells l++Lib.runeCells r)):
 w.ownsRow B 5 1 v (l++Lib.encodeRune r).length (Lib.byteCells (l++Lib.encodeRune r)):=by rw[Lib.byteCells_append,Lib.byteCells_encodeRune,aN,<-Lib.runeCells_length];exact h
def tD(a:zzc)(b off n:Nat)(w:AT)(C:b<w.heap.size)(hc:∀j,j<a.length->w.cell? (aq b (off+j))=some (Iq (a[j]?.getD 0)))(z:a.length<=17592186044416):
 Cw 320 #[.slice (some (aq b off)) a.length n] w λe w'=>e=Rw (.string ⟨(enc a).toArray⟩)/\Bq w w':=by
 have A:=qH<|hc;clear hc;go_enter func320,ntmps320;go_wp2;go_loopw[3,8] (λv i wr=>∃k:Nat,k<=a.length/\i=Iq k/\wr.ownsRow w.heap.size 5 1 v (enc (a.take k)).length (Lib.byteCells (enc (a.take k)))/\Bq w wr) (λ_ i _=>a.length-(intOf i).toNat);.exact⟨0,LT,rfl,by simpa[enc,Lib.byteCells]using gw _ _ _ _,Ok⟩
 obtain⟨k,E,rfl,c,d⟩:=hrel;have G:=M_ a k E;by_cases h:k<a.length
 .obtain⟨x,t⟩:=af (a[k]?.getD 0);have s:wr.cell? (aq b (off+k))=some (Iq x):=by rw[<-t];exact(d.cell (p:=(aq b (off+k))) C).trans (A k h)
  have I:=Ja x;have m:=d.size;have B:Hid (enc (a.take (k+1))=enc (a.take k)++Lib.encodeRune (ma x)):=qH<|by rw[Gv a k h,t,mA]
  clear t;have l:(k:Int)<(a.length:Int):=dg;go_wp2_with(first|(go_at_call 342;refine Ut (Ag _ _) ?_;rintro w' rfl)|(go_at_call 341;refine(oU w.heap.size _ _ _ _ dg dg _ c dg m).mono ?_));rintro e H ⟨J,rfl,g,o,y⟩;have f:=λq F=>(c.lt q F).1;have r:=(d.alloc m o).grown y (by simp;omega) f;clear s c y f d;go_wp2;go_roundw;.refine⟨k+1,dg,by go_num,?_,r⟩;rw[B.out];exact IK g
  .simp[intOf];omega
 .have u:k=a.length:=dg;have l:¬(k:Int)<(a.length:Int):=dg;rw[u,jB]at c;have D:=uR c;clear u;go_wp2;go_ret;simp_all
def Sc(r:Int):Prop:=(0<=r/\r<55296)\/(57343<r/\r<=1114111)
def Good(r:Int):Prop:=Sc r/\eG r=r
def fd l t k(h:k<l.length):bH (l++t) k=(l.getD k 0).toNat:=by grind[bH]
def Kc(x:Int)(a:0<=x)(b:x<256):(x.toNat.toUInt8).toNat=x.toNat:=by simp;omega
def La r(h:Sc r)t:qU (Lib.encodeRune r++t)=(r.toNat,(Lib.encodeRune r).length):=by
 unfold Sc at h;by_cases a:0<=r/\r<=127
 .have e:Lib.encodeRune r=[r.toNat.toUInt8]:=by unfold Lib.encodeRune;rw[Lib.encodeRuneZ_one a.1 a.2];rfl
  rw[e];have g:bH ([r.toNat.toUInt8]++t) 0=r.toNat:=by rw[fd _ _ _ At];exact Kc r dg dg
  rw[Bg _ (by rw[g];omega),g];rfl
 by_cases b:128<=r/\r<=2047
 .have e:Lib.encodeRune r=[(192+r/64).toNat.toUInt8,(128+r %64).toNat.toUInt8]:=by unfold Lib.encodeRune;rw[Lib.encodeRuneZ_two b.1 b.2];rfl
  rw[e];generalize f:[(192+r/64).toNat.toUInt8,(128+r %64).toNat.toUInt8]++t=l;have g:bH l 0=(192+r/64).toNat:=by rw[<-f,fd _ _ _ At];exact Kc _ dg dg
  have i:bH l 1=(128+r %64).toNat:=by rw[<-f,fd _ _ _ At];exact Kc _ dg dg
  have c1:=(fH l 1).2 ⟨by rw[<-f];simp,dg,dg⟩;unfold qU;rw[if_neg dg,if_pos (by rw[c1,g];simp;omega),if_pos dg,g,i];simp;omega
 by_cases c:(2048<=r/\r<55296)\/(57343<r/\r<=65535)
 .have e:Lib.encodeRune r=[(224+r/4096).toNat.toUInt8,(128+r/64 %64).toNat.toUInt8,(128+r %64).toNat.toUInt8]:=by unfold Lib.encodeRune;rw[Lib.encodeRuneZ_three c];rfl
  rw[e];generalize f:[(224+r/4096).toNat.toUInt8,(128+r/64 %64).toNat.toUInt8,(128+r %64).toNat.toUInt8]++t=l;have g:bH l 0=(224+r/4096).toNat:=by rw[<-f,fd _ _ _ At];exact Kc _ dg dg
  have i:bH l 1=(128+r/64 %64).toNat:=by rw[<-f,fd _ _ _ At];exact Kc _ dg dg
  have n:bH l 2=(128+r %64).toNat:=by rw[<-f,fd _ _ _ At];exact Kc _ dg dg
  have c1:=(fH l 1).2 ⟨by rw[<-f];simp,dg,dg⟩;have c2:=(fH l 2).2 ⟨by rw[<-f];simp,dg,dg⟩;have m:bH l 0 %16*4096+bH l 1 %64*64+bH l 2 %64=r.toNat:=dg;have j:¬(bH l 0/32==6&&cnt l 1)=true:=by simp;omega
  have k:(bH l 0/16==14&&cnt l 1&&cnt l 2)=true:=by simp[c1,c2];omega
  unfold qU;grind[en]
 .have d:65536<=r/\r<=1114111:=dg;have e:Lib.encodeRune r=[(240+r/262144).toNat.toUInt8,(128+r/4096 %64).toNat.toUInt8,(128+r/64 %64).toNat.toUInt8,(128+r %64).toNat.toUInt8]:=by unfold Lib.encodeRune;rw[Lib.encodeRuneZ_four d.1 d.2];rfl
  rw[e];generalize f:[(240+r/262144).toNat.toUInt8,(128+r/4096 %64).toNat.toUInt8,(128+r/64 %64).toNat.toUInt8,(128+r %64).toNat.toUInt8]++t=l;have g:bH l 0=(240+r/262144).toNat:=by rw[<-f,fd _ _ _ At];exact Kc _ dg dg
  have i:bH l 1=(128+r/4096 %64).toNat:=by rw[<-f,fd _ _ _ At];exact Kc _ dg dg
  have n:bH l 2=(128+r/64 %64).toNat:=by rw[<-f,fd _ _ _ At];exact Kc _ dg dg
  have p:bH l 3=(128+r %64).toNat:=by rw[<-f,fd _ _ _ At];exact Kc _ dg dg
  have c1:=(fH l 1).2 ⟨by rw[<-f];simp,dg,dg⟩;have c2:=(fH l 2).2 ⟨by rw[<-f];simp,dg,dg⟩;have c3:=(fH l 3).2 ⟨by rw[<-f];simp,dg,dg⟩;have m:bH l 0 %8*262144+bH l 1 %64*4096+bH l 2 %64*64+bH l 3 %64=r.toNat:=dg;have j:¬(bH l 0/32==6&&cnt l 1)=true:=by simp;omega
  have k:¬(bH l 0/16==14&&cnt l 1&&cnt l 2)=true:=by simp;omega
  have o:(bH l 0/8==30&&cnt l 1&&cnt l 2&&cnt l 3)=true:=by simp[c1,c2,c3];omega
  unfold qU;rw[if_neg dg,if_neg j,if_neg k,if_pos o,m,if_pos];.rfl
  .simp only[xN,decide_eq_true_eq,en];omega
def Gu r R:enc (r::R)=Lib.encodeRune r++enc R:=by simp[enc]
def qV r t:Lib.encodeRune r++t≠[]:=by intro e;have:=(Lib.runeCells_le r).1;rw[Lib.runeCells_length]at this;have h:=congrArg List.length e;simp only[aN,eI]at h;omega
def Eu R(h:∀r∈R,Good r):az (enc R)=R:=by
 induction R with
 |nil=>simp[enc,jV]
 |cons r R f=>
  have b:=h r At;have hd:=La r b.1 (enc R);have c:0<=r:=by rcases b.1 with a|a<;>omega
  rw[Gu,iG (qV r _),hd,List.drop_left,f (λx d=>h x (by simp[d]))];have e:eG ((r.toNat:Nat):Int)=r:=by rw[JS c];exact b.2
  rw[e]
def Oy l:Sc ((qU l).1:Int):=by grind[my,Sc,qU,bH,cnt,en]
def Al r(h:Sc r):Good (eG r):=by grind[Good,Sc,eG]
def Ah l:∀r∈az l,Good r:=by
 generalize d:l.length=n;induction n using Nat.strongRecOn generalizing l with
 |_ n b=>
  by_cases h:l=[];.subst h;rw[jV];simp
  .rw[iG h];have e:=lG l;have c:=iQ.2 h;intro r a;rcases kD.1 a with rfl|a;.exact Al _ (Oy l)
   .exact b (l.drop (qU l).2).length (by rw[dq];omega) _ rfl r a
def fk(r:Int):Bool:=decide (r≠10/\mY r=0)
theorem vu r:fk r=true↔r≠10/\mY r=0:=by simp[fk]
def pE r:fk r=false↔¬(r≠10/\mY r=0):=by grind[vu,fk]
def jw{α:Type}p(l:List α)k(g:k<=l.length)(h:∀j (b:j<l.length),j<k->p l[j]=true)(f:∀b,p l[k]=false):l.takeWhile p=l.take k:=by
 induction l generalizing k with
 |nil=>simp
 |cons a l e=>
  cases k with
  |zero=>simp_all
  |succ k=>have c:=h 0 At dg;simp at c;simp only[List.takeWhile_cons,c,if_true,List.take_succ_cons];rw[e k rn (λj b d=>rn) (λb=>rn)]
def BG(R:zzc):List Int:=R.takeWhile fk
theorem Pl R:(BG R).length<=R.length:=(List.takeWhile_sublist _).length_le
def eN(R:zzc):Int:=match R with|[]=>32|r::_=>if fk r=true then 32 else r
def qQ(R:zzc):Nat:=match R with|[]=>0|r::_=>if fk r=true then 0 else 1
def dB(R:zzc):List Int:=BG (R.drop (qQ R))
def gn(R:zzc):Nat:=match R with|[]=>0|r::_=>if r=10 then 1 else qQ R+(dB R).length
def eh(R:zzc):List UInt8:=match R with|[]=>[]|r::_=>if r=10 then[10]else enc (eN R::(dB R).take 4)
def fi(R:zzc):Int:=match R with|[]=>0|r::_=>if r=10 then 0 else mY (eN R)
theorem dC{R}(h:R≠[]):1<=gn R:=by
 match R,h with
 |r::t,_=>
  simp only[gn];split;.omega
  .by_cases a:fk r=true;all_goals simp_all[qQ,dB,BG]
theorem AY R:gn R<=R.length:=by
 match R with
 |[]=>simp[gn]
 |r::t=>grind[gn,Pl,qQ,dB]
def rK:Nat->List Int->List (List UInt8×Int)
 |0,_=>[]
 |_+1,[]=>[]
 |f+1,r::t=>(eh (r::t),fi (r::t))::rK f ((r::t).drop (gn (r::t)))
theorem lF:∀  f g   l,l.length<=f->l.length<=g->rK f l=rK g l
 |0,0,_,_,_=>rfl
 |0,g+1,l,h,_=>by have:l=[]:=iR.1 dg;subst this;rfl
 |f+1,0,l,_,h=>by have:l=[]:=iR.1 dg;subst this;rfl
 |f+1,g+1,[],_,_=>rfl
 |f+1,g+1,r::t,a,b=>by have c:=dC (R:=r::t) At;simp only[cV]at a b;simp only[rK];rw[lF f g _ rn rn]
def ba(R:zzc):List (List UInt8×Int):=rK R.length R
theorem fP:ba []=[]:=rfl
theorem ek{R}(h:R≠[]):ba R=(eh R,fi R)::ba (R.drop (gn R)):=by
 cases R with
 |nil=>grind
 |cons r t=>grind[dC,rK,ba,lF]
theorem ci R:(ba R).length<=R.length:=by
 generalize b:R.length=n;induction n using Nat.strongRecOn generalizing R with
 |_ n d=>
  by_cases h:R=[];.grind[fP]
  .rw[ek h];have c:=dC h;have a:=iQ.2 h;grind
def EY:mY 32=1:=by decide+kernel
theorem F5 R:0<=fi R/\fi R<=2:=by
 match R with
 |[]=>simp[fi]
 |r::t=>
  simp only[fi];split;.omega
  .exact Ju _
def eV R:∀c∈ba R,0<=c.2/\c.2<=2:=by
 generalize b:R.length=n;induction n using Nat.strongRecOn generalizing R with
 |_ n e=>
  by_cases h:R=[];.grind[fP]
  .rw[ek h];have d:=dC h;have a:=iQ.2 h;grind[F5,gn]
def ak(l:List (List UInt8×Int)):Int:=(l.map (·.2)).sum
theorem eH(l:List (List UInt8×Int))k h:ak (l.take (k+1))=ak (l.take k)+(l[k]'h).2:=by unfold ak;rw[gx h,mi,JO];grind
def cU(l:List (List UInt8×Int))(h:∀c∈l,0<=c.2/\c.2<=2)k:0<=ak (l.take k)/\ak (l.take k)<=2*k:=by
 induction k with
 |zero=>simp[ak]
 |succ k b=>
  by_cases a:k<l.length;.grind[eH]
  .rw[im dg]at*;omega
def aY(w:AT):Prop:=∀i,i<26->w.cell? (aq 10 (i*3))=some (Iq (cD i).1)/\w.cell? (aq 10 (i*3+1))=some (Iq (cD i).2.1)/\w.cell? (aq 10 (i*3+2))=some (Iq (cD i).2.2)
def kW(r:Int)(w:AT)(v:aY w):
 Cw 321 #[Iq r] w λe w'=>e=Rw (Iq (mY r))/\w'=w:=by
 have x:=qH<|v;clear v;by_cases l:r=10;.subst l;rw[Nj];go_enter func321,ntmps321;go_wp2;go_ret;simp_all
 .have q:(r==10)=false:=by simp[l]
  have o:Hid (r≠10):=l;clear l;go_enter func321,ntmps321;go_wp2;go_loop[3,4] (λa b=>∃lo hi:Nat,lo<=hi/\hi<=26/\a=Iq lo/\b=Iq hi/\Hid (sV r lo hi)) (λa b=>(intOf b-intOf a).toNat);.exact⟨0,26,dg,dg,rfl,rfl,half_start r⟩
  obtain⟨lo,hi,C,z,rfl,rfl,hh⟩:=hrel;by_cases D:lo<hi
  .have n:(lo:Int)<(hi:Int):=dg;obtain⟨d,E⟩:∃d:Nat,d=(lo+hi)/2:=⟨_,rfl⟩;have t:((lo:Int)+(hi:Int))/2=(d:Int):=dg;have j:d<26:=dg;have u:lo<=d:=dg;have s:d<hi:=dg;clear E;obtain⟨y,c1,c2⟩:=x d j;obtain⟨a,b,c,hs⟩:∃a b c,cD d=(a,b,c):=⟨_,_,_,rfl⟩;rw[hs]at y c1 c2;have m:=qH<|hs;clear hs;have f:r<a->Hid (sV r lo d):=λh=>DV hh j (by rw[m.out];exact h);have g:b<r->Hid (sV r (d+1) hi):=λh=>GK hh j (by rw[m.out];exact h);have i:Hid (a<=r->r<=b->mY r=c):=λh k=>by have:=Jw r _ (An j) (by rw[m.out];exact h) (by rw[m.out];exact k);rw[m.out]at this;exact this
   by_cases A:r<a
   .have F:=f A;clear f g i hh;go_wp2;go_round;.grind
    .simp[intOf];omega
   .by_cases B:b<r
    .have G:=g B;clear f g i hh;go_wp2;go_round;.grind
     .simp[intOf];omega
    .have p:=qH<|i dg dg;clear f g i hh;go_wp2;go_ret;rw[p.out];simp_all
  .have n:¬(lo:Int)<(hi:Int):=dg;have p:=qH<|half_end hh dg o;clear hh;go_wp2;go_ret;rw[p.out];simp_all
def qW(a:zze)(b:Nat)(w:AT):
 Cw 320 #[.slice a 0 b] w λe w'=>e=Rw (.string ⟨#[]⟩)/\Bq w w':=by
 have c:=uR (l:=[]) (show w.ownsRow w.heap.size 5 1 (.slice none 0 0) 0 (Lib.byteCells [])from gw w w.heap.size 5 1);go_enter func320,ntmps320;go_wp2;go_loop[3,8] (λv i=>v=.slice none 0 0/\i=Iq 0) (λ_ _=>0);.grind
 obtain⟨rfl,rfl⟩:=hrel;go_wp2;go_ret;exact⟨rfl,Ok⟩
def nh f v w(h:oO w v f)(d:f.length<=17592186044416):
 Cw 320 #[v] w λe w'=>e=Rw (.string ⟨(enc f).toArray⟩)/\Bq w w':=by
 obtain⟨a,c,rfl,rfl|⟨b,off,rfl,g,i⟩⟩:=h;.exact qW a c w
 .exact tD f b off c w g i d
def mH{w}{B n}{v}{a}(h:w.ownsRow B 3 1 v n (a.map (Value.int .i64))):oO w v a:=by
 have c:a.length=n:=by have:=h.1;simpa using this
 rcases h.2 with⟨rfl,rfl⟩|⟨g,b,d,rfl,_,f,_⟩;.have k:=iR.1 c;subst k;exact⟨none,0,rfl,.inl rfl⟩
 .refine⟨some (aq g 0),b,by rw[c],.inr ⟨g,0,rfl,(aj.1 f).1,λj i=>?_⟩⟩;have:=h.cells (g:=g) rfl j (Iq (a[j]?.getD 0)) (by simp[i]);have e:((aq g 0):Addr).add j=(aq g (0+j)):=by unfold Addr.add;split<;>simp_all
  grind
theorem yD:fk 32=false:=by rw[pE,EY];simp
def dD(R:zzc):List Int:=match R with|[]=>[]|r::_=>if r=10 then[10]else eN R::(dB R).take 4
theorem Lg:enc [10]=[10]:=by decide+kernel
theorem jF R:eh R=enc (dD R):=by
 match R with
 |[]=>rfl
 |r::t=>grind[eh,dD,Lg]
def pV:Nat->List Int->List Int
 |0,_=>[]
 |_+1,[]=>[]
 |f+1,r::t=>dD (r::t)++pV f ((r::t).drop (gn (r::t)))
def lN:∀  f g   l,l.length<=f->l.length<=g->pV f l=pV g l
 |0,0,_,_,_=>rfl
 |0,g+1,l,h,_=>by have:l=[]:=iR.1 dg;subst this;rfl
 |f+1,0,l,_,h=>by have:l=[]:=iR.1 dg;subst this;rfl
 |f+1,g+1,[],_,_=>rfl
 |f+1,g+1,r::t,a,b=>by have c:=dC (R:=r::t) At;simp only[cV]at a b;simp only[pV];rw[lN f g _ rn rn]
def yR(R:zzc):List Int:=pV R.length R
theorem wy:yR []=[]:=rfl
theorem sd{R}(h:R≠[]):yR R=dD R++yR (R.drop (gn R)):=by
 cases R with
 |nil=>exact absurd rfl h
 |cons r t=>have a:=dC (R:=r::t) At;show pV (t.length+1) (r::t)=_;simp only[pV,yR];rw[lN t.length _ _ (by rw[dq,cV];omega) LE]
def Lf a b:enc (a++b)=enc a++enc b:=by simp[enc]
def aI(l:List (List UInt8×Int)):List UInt8:=l.flatMap (·.1)
def yG R:aI (ba R)=enc (yR R):=by
 generalize c:R.length=n;induction n using Nat.strongRecOn generalizing R with
 |_ n a=>
  by_cases h:R=[];.subst h;rw[fP,wy];rfl
  .have d:=dC h;have b:=iQ.2 h;have e:=a (R.drop (gn R)).length rn _ rfl;rw[ek h,sd h,Lf,<-e,<-jF];rfl
def Qj(X:zzc):Prop:=∀x,X.head?=some x->fk x=false
def Ml M X(b:∀m∈M,fk m=true)(c:Qj X):BG (M++X)=M:=by
 unfold BG;rw[List.takeWhile_append_of_pos (λa d=>b a d)];cases X with
 |nil=>simp
 |cons x X=>have:=c x rfl;simp[this]
def Mm L:∀m∈BG L,fk m=true:=by
 unfold BG;induction L with
 |nil=>simp
 |cons a L d=>
  intro m c;by_cases b:fk a=true;.rw[List.takeWhile_cons,if_pos b]at c;grind
  simp_all
def FU r t:fk (eN (r::t))=false:=by grind[eN,yD]
def Dm{r}{t}(h:r≠10):eN (r::t)≠10:=by grind[eN]
def Ge{R}(h:R≠[])X(l:Qj X):ba (dD R++X)=(eh R,fi R)::ba X:=by
 match R,h with
 |r::t,_=>
  by_cases a:r=10;.grind[dD,eh,fi,ba,ek,gn]
  .have g:dD (r::t)=eN (r::t)::(dB (r::t)).take 4:=by simp only[dD,if_neg a]
   have i:eh (r::t)=enc (eN (r::t)::(dB (r::t)).take 4):=by simp only[eh,if_neg a]
   have j:fi (r::t)=mY (eN (r::t)):=by simp only[fi,if_neg a]
   have n:=FU r t;have b:=Dm (t:=t) a;have k:∀m∈(dB (r::t)).take 4,fk m=true:=λm o=>Mm _ m (nU o);have d:((dB (r::t)).take 4).length<=4:=by rw[cL];omega
   rw[g,i,j];generalize eN (r::t)=B at*;generalize(dB (r::t)).take 4=M at*;have c:¬fk B=true:=by rw[n];simp
   rw[kM,ek At];have e:qQ (B::(M++X))=1:=by simp only[qQ,if_neg c]
   have p:eN (B::(M++X))=B:=by simp only[eN,if_neg c]
   have f:dB (B::(M++X))=M:=by unfold dB;rw[e];exact Ml M X k l
   have q:gn (B::(M++X))=1+M.length:=by simp only[gn,if_neg b,e,f]
   have s:eh (B::(M++X))=enc (B::M):=by simp only[eh,if_neg b,p,f];rw[im d]
   grind[fi,mY]
theorem yq:Good 32:=⟨.inl dg,rfl⟩
def uH R(h:∀r∈R,Good r):∀r∈dD R,Good r:=by
 match R with
 |[]=>grind[dD]
 |r::t=>
  intro x a;simp only[dD]at a;split at a;.grind
  .rcases kD.1 a with rfl|a;.grind[eN,yq]
   .have b:=nU a;unfold dB BG at b;have c:=(List.takeWhile_sublist _).subset b;grind
theorem gE R:(dD R).length<=5:=by
 match R with
 |[]=>simp[dD]
 |r::t=>grind[dD]
def wm R:(yR R).length<=5*R.length:=by
 generalize a:R.length=n;induction n using Nat.strongRecOn generalizing R with
 |_ n b=>by_cases h:R=[];all_goals grind[wy,dC,AY,gn,gE,sd]
theorem kt s:(aI (ba (az s))).length<=20*s.length:=by have a:=tA (yR (az s));have b:=wm (az s);have c:=bC s;rw[yG];omega
def vz(l:List (List UInt8×Int))k h:aI (l.take (k+1))=aI (l.take k)++(l[k]'h).1:=by unfold aI;rw[gx h,List.flatMap_append];simp
theorem fU l k:(aI (l.take k)).length<=(aI l).length:=by unfold aI;have e:=(eT k l).symm;grind
def tx(l:List (List UInt8×Int))(n:Nat):List UInt8:=(l[n]?.map (·.1)).getD []
theorem Cf{l}{n}(h:n<l.length):tx l n=(l[n]).1:=by simp[tx,h]
def xy a b:ak (a++b)=ak a+ak b:=by grind[ak]
theorem dK c b:ak (c::b)=c.2+ak b:=by simp[ak]
theorem np c b:aI (c::b)=c.1++aI b:=by simp[aI]
def pI a b:aI (a++b)=aI a++aI b:=by simp[aI]
def dk:List (List UInt8×Int)->Int->Nat
 |[],_=>0
 |c::t,w=>if c.1=[10]\/w<c.2 then 0 else dk t (w-c.2)+1
def jG:∀  l   w,dk l w<=l.length
 |[],_=>LE
 |c::t,w=>by
  simp only[dk];split;.simp
  .have:=jG t (w-c.2);grind
def Fit(l:List (List UInt8×Int))(w:Int)(k:Nat):Prop:=∀j,j<k->tx l j≠[10]/\ak (l.take (j+1))<=w
def fitN_stop:∀  l   w   k,k<=l.length->Fit l w k->(k<l.length->tx l k=[10]\/w<ak (l.take (k+1)))->dk l w=k
 |[],w,k,e,_,_=>by grind[dk]
 |c::t,w,0,_,_,d=>by grind[tx,dK,ak,dk]
 |c::t,w,k+1,e,b,d=>by
  have a:=b 0 dg;simp only[tx,List.take_succ_cons,List.take_zero,dK,CZ,Option.map_some,Cr,show ak []=0 from rfl,Int.add_zero]at a;have f:¬(c.1=[10]\/w<c.2):=by rintro(h|h);exact a.1 h;omega
  simp only[dk,if_neg f];rw[fitN_stop t (w-c.2) k rn (λj g=>by have:=b (j+1) dg;grind[dK,tx]) (λh=>by grind[dK,tx])]
def rR:∀  l   w,(∀c∈l,0<=c.2/\c.2<=2)->Fit l w (dk l w)/\(dk l w<l.length->tx l (dk l w)=[10]\/w<ak (l.take (dk l w+1)))
 |[],w,_=>⟨λj a=>by simp[dk]at a,λh=>by simp at h⟩
 |c::t,w,b=>by
  by_cases h:c.1=[10]\/w<c.2;.simp only[dk,if_pos h];refine⟨λj a=>dg,λ_=>?_⟩;grind[tx,ak]
  .have e:=rR t (w-c.2) (λx d=>b x (by simp[d]));simp only[dk,if_neg h];have f:=not_or.1 h;refine⟨λj a=>?_,λg=>?_⟩;.cases j with
    |zero=>grind[tx,ak]
    |succ j=>have:=e.1 j dg;grind[dK,tx]
   grind[dK,tx]
def dS(l:List (List UInt8×Int)):Nat->Int
 |0=>-1
 |n+1=>if tx l n=[32]then n else dS l n
def pQ l:∀n,dS l n<n/\-1<=dS l n
 |0=>by simp[dS]
 |n+1=>by have:=pQ l n;grind[dS]
structure SH where
 n:Nat
 d:Nat
 e:Int
def aR(r:List (List UInt8×Int))(w:Int):SH:=
 if dk r w=r.length then⟨dk r w,0,3⟩
 else if tx r (dk r w)=[10]then⟨dk r w,1,2⟩
 else if dk r w=0 then⟨1,0,1⟩
 else if tx r (dk r w)=[32]then⟨dk r w,1,0⟩
 else if 0<=dS r (dk r w)then⟨(dS r (dk r w)).toNat,1,0⟩
 else⟨dk r w,0,1⟩
def rP r w:(aR r w).n+(aR r w).d<=r.length:=by have h:=jG r w;have a:=pQ r (dk r w);grind[aR]
theorem ym r w:(aR r w).e=3\/1<=(aR r w).n+(aR r w).d:=by grind[aR]
structure Ln where
 T:List UInt8
 W:Int
 F:Nat
 N:Nat
 E:Int
def eq(l:List (List UInt8×Int))(w:Int)(a:Nat):Ln:=
 let c:=aR (l.drop a) w
 let r:=(l.drop a).take c.n
 if w<ak r then⟨List.replicate w.toNat 32,w,a,1,c.e⟩else⟨aI r,ak r,a,r.length,c.e⟩
def E9(l:List (List UInt8×Int))(w:Int)(a:Nat):Nat:=a+(aR (l.drop a) w).n+(aR (l.drop a) w).d
theorem yS l w a(h:a<=l.length):E9 l w a<=l.length:=by have:=rP (l.drop a) w;grind[E9]
theorem Pj l w a:(eq l w a).E=(aR (l.drop a) w).e:=by grind[eq]
theorem nxt_lt l w a(h:(eq l w a).E≠3):a<E9 l w a:=by grind[Pj,ym,E9]
def iA:Nat->List (List UInt8×Int)->Int->Nat->List Ln
 |0,_,_,_=>[]
 |f+1,l,w,a=>if(eq l w a).E=3 then[eq l w a]else eq l w a::iA f l w (E9 l w a)
theorem kw:∀  f g   l   w   a,a<=l.length->l.length<f+a->l.length<g+a->iA f l w a=iA g l w a
 |0,_,_,_,_,_,h,_=>dg
 |_+1,0,_,_,_,_,_,h=>dg
 |f+1,g+1,l,w,a,b,d,e=>by
  simp only[iA];split;.rfl
  .rename_i c;have:=nxt_lt l w a c;rw[kw f g l w (E9 l w a) (yS l w a b) dg dg]
def dZ(l:List (List UInt8×Int))(w:Int)(a:Nat):List Ln:=iA (l.length+1-a) l w a
theorem k5{l}{w}{a}(b:a<=l.length)(h:(eq l w a).E=3):dZ l w a=[eq l w a]:=by unfold dZ;rw[show l.length+1-a=(l.length-a)+1 by omega];grind[iA]
theorem ny{l}{w}{a}(b:a<=l.length)(h:(eq l w a).E≠3):dZ l w a=eq l w a::dZ l w (E9 l w a):=by have c:=nxt_lt l w a h;have d:=yS l w a b;unfold dZ;rw[show l.length+1-a=(l.length-a)+1 by omega];grind[iA,kw,E9]
theorem fe l w a(b:a<=l.length):1<=(dZ l w a).length/\(dZ l w a).length<=l.length+1-a:=by
 generalize c:l.length-a=n;induction n using Nat.strongRecOn generalizing a with
 |_ n d=>grind[eq,k5,nxt_lt,yS,ny,E9]
def bJ(l:List (List UInt8×Int))(w:Int):List Ln:=if w<1 then[]else dZ l w 0
def M6(a b:zzf):(⟨a.toArray⟩:BY)++(⟨b.toArray⟩:BY)=⟨(a++b).toArray⟩:=by apply jx;simp
def one(l:List (List UInt8×Int)):List (List UInt8×Int):=l.map λc=>if c.1=[10]then([32],1)else c
def pZ l:(one l).length=l.length:=by simp[one]
def My l:∀c∈one l,c.1≠[10]:=by intro c a;obtain⟨d,hd,rfl⟩:=kJ.1 a;grind
def o_ R:∀c∈ba R,c.1.length<=20:=by
 generalize b:R.length=n;induction n using Nat.strongRecOn generalizing R with
 |_ n e=>
  by_cases h:R=[];.grind[fP]
  .have d:=dC h;have a:=iQ.2 h;grind[ek,eh,jF,tA,dD,gE,gn]
def mJ:∀  l,(∀c∈l,c.1.length<=20)->(aI l).length<=20*l.length
 |[],_=>by simp[aI]
 |c::l,h=>by have a:=mJ l (λx b=>h x (by simp[b]));grind[np]
def Ek{l}(h:∀c∈l,c.1.length<=20):∀c∈one l,c.1.length<=20:=by intro c a;obtain⟨d,hd,rfl⟩:=kJ.1 a;grind
def IB{l}(h:∀c∈l,0<=c.2/\c.2<=2):∀c∈one l,0<=c.2/\c.2<=2:=by intro c a;obtain⟨d,hd,rfl⟩:=kJ.1 a;grind
def oA l(h:∀c∈l,0<=c.2/\c.2<=2)k:ak (l.take k)<=ak l:=by
 have e:ak l=ak (l.take k)+ak (l.drop k):=by rw[<-xy,eT]
 have:=cU (l.drop k) (λc a=>h c (kN a)) (l.drop k).length;grind
def Lj l W(h:∀c∈l,0<=c.2/\c.2<=2)(b:∀c∈l,c.1≠[10])(f:0<=W):dk l W=l.length↔ak l<=W:=by
 have sp:=rR l W h;have i:=jG l W;constructor;.intro e;cases g:l.length with
  |zero=>have:=iR.1 g;subst this;exact f
  |succ n=>have:=(sp.1 n dg).2;grind
 .intro e;by_cases a:dk l W<l.length
  .rcases sp.2 a with d|d;.grind[Cf]
   .have:=oA l h (dk l W+1);omega
  .omega
def vr(w:AT)b c a(h:c=(b.map (Value.int .i64)).toArray):oO (w.alloc (.cells c 3)) (Sq w.heap.size b.length a) b:=by subst h;refine⟨_,a,rfl,.inr ⟨w.heap.size,0,rfl,At,λj d=>?_⟩⟩;simp_all
def sJ(w:AT):
 Cw 265 #[] w λe w'=>∃v,e=Rw v/\oO w' v (je fc)/\Bq w w':=by go_enter func265,ntmps265;go_wp2;go_ret;exact⟨_,rfl,vr w (je fc) _ 26 rfl,No⟩
def EZ(w:AT):
 Cw 266 #[] w λe w'=>∃v,e=Rw v/\oO w' v (je gh)/\Bq w w':=by go_enter func266,ntmps266;go_wp2;go_ret;exact⟨_,rfl,vr w (je gh) _ 28 rfl,No⟩
theorem vq(r:Int)(l:List (Int×Int))(E:l.length<=1000)(b off s:Nat)(w:AT)(y:∀j,j<(je l).length->w.cell? (aq b (off+j))=some (Iq ((je l)[j]?.getD 0))):
 Cw 264 #[Iq r,.slice (some (aq b off)) (je l).length s] w λe w'=>e=Rw (.bool (GP r l))/\w'=w:=by
 have v:=qH<|y;clear y;have hfl:=ng l;have m:=qH<|hfl;rw[hfl];clear hfl;go_enter func264,ntmps264;go_wp2;go_loop[5] (λi=>∃k:Nat,k<=l.length/\i=Iq (2*k:Nat)/\Hid (∀j,j<k->¬((l.getD j (0,0)).1<=r/\r<=(l.getD j (0,0)).2))) (λi=>2*l.length-(intOf i).toNat);.exact⟨0,LT,rfl,λj h=>dg⟩
 obtain⟨k,D,rfl,d⟩:=hrel;by_cases n:k<l.length
 .have o:(2*(k:Int))+1<2*(l.length:Int):=dg;obtain⟨p,q,g⟩:∃p q,l.getD k (0,0)=(p,q):=⟨_,_,rfl⟩;have f:=Lk l k;rw[g]at f;have C:w.cell? (aq b (off+2*k))=some (Iq p):=by rw[v (2*k) (by rw[m.out];omega),f.1]
  have c1:w.cell? (aq b (off+(2*k+1)))=some (Iq q):=by rw[v (2*k+1) (by rw[m.out];omega),f.2]
  have x:=qH<|g;have c:(p,q)∈l:=by rw[<-g,sP,da n];exact kK n
  have z:=qH<|c;clear f g c;by_cases A:p<=r
  .by_cases B:r<=q;.have e:=qH<|(iz r l).2 ⟨_,z,A,B⟩;go_wp2;go_ret;rw[e.out];simp_all
   .go_wp2;go_round
    .refine⟨k+1,dg,by go_num,λj u=>?_⟩;by_cases t:j=k;.subst t;rw[x.out];omega
     .exact d j dg
    .simp[intOf];omega
  .go_wp2;go_round
   .refine⟨k+1,dg,by go_num,λj u=>?_⟩;by_cases t:j=k;.subst t;rw[x.out];omega
    .exact d j dg
   .simp[intOf];omega
 .have o:¬(2*(k:Int))+1<2*(l.length:Int):=dg;have e:Hid (GP r l=false):=qH<|by rw[Bool.eq_false_iff];intro h;obtain⟨p,g,a⟩:=(iz r l).1 h;obtain⟨j,u,rfl⟩:=mh.1 g;have:=d j dg;rw[sP,da u]at this;exact this a
  go_wp2;go_ret;rw[e.out];simp_all
def kY r l(f:l.length<=1000)(c:0<l.length)v w(h:oO w v (je l)):
 Cw 264 #[Iq r,v] w λe w'=>e=Rw (.bool (GP r l))/\w'=w:=by
 obtain⟨a,b,rfl,hh⟩:=h;have d:je l≠[]:=λe=>by grind[ng]
 grind[vq]
def ld(r:Int)(w:AT):
 Cw 201 #[Iq r] w λe w'=>e=Rw (Iq (mY r))/\Bq w w':=by
 unfold mY;by_cases a:GP r fc=true;.rw[if_pos a];have d:=qH<|a;clear a;go_enter func201,ntmps201;go_wp2_with fail;refine(sJ _).mono ?_;rintro e j ⟨v1,rfl,c,f⟩;go_wp2_with fail;refine Ut (kY r fc (by decide) (by decide) _ _ c) ?_;rintro k rfl;rw[d.out];go_wp2;go_ret;simp_all
 .have d:Hid (GP r fc=false):=qH<|by simpa using a
  rw[if_neg a];clear a;by_cases b:GP r gh=true;focus rw[if_pos b];have g:=qH<|b
  rotate_left;focus rw[if_neg b];have g:Hid (GP r gh=false):=qH<|by simpa using b
  rotate_left;all_goals clear b;go_enter func201,ntmps201;go_wp2_with fail;refine(sJ _).mono ?_;rintro e j ⟨v1,rfl,c,f⟩;go_wp2_with fail;refine Ut (kY r fc (by decide) (by decide) _ _ c) ?_;rintro k rfl;rw[d.out];clear c;go_wp2_with fail;refine(EZ _).mono ?_;rintro e w3 ⟨l,rfl,h,i⟩;go_wp2_with fail;refine Ut (kY r gh (by decide) (by decide) _ _ h) ?_;rintro m rfl;rw[g.out];go_wp2;go_ret;exact⟨rfl,f.trans (i.mono f.size)⟩
