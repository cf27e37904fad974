import Derived.Shelf.Utf8.AppendRunePlain
import Derived.Test.YtaanagpadfcmlaaGreatDoorProg
import Derived.Test.YtaanagpadfcmlaaGreatDoorQ02
import Derived.Test.YtaanagpadfcmlaaGreatDoorQ16
import Derived.Lib.BufferRead
set_option linter.all false
set_option maxRecDepth 100000
set_option maxHeartbeats 16000000
namespace Go.Proofs.YtaanagpadfcmlaaGreatDoor
open Go.RowKit Go.Proofs.Tryz
section
open Go.Shelf
def xI:Go.Shelf.Ren:=⟨fun|242=>243|278=>258|n=>n,fun|37=>160|21=>21|51=>206|4=>4|5=>5|46=>140|n=>n,fun|n=>n⟩
theorem L5:Go.Proofs.Lays.n242 prog xI:={
 mixed:=ns
 f242:=func243.trans (congrArg some ns)
 f278:=func258.trans (congrArg some ns)
 t4:=underlying4
 a4:=isAgg4
 z4:=sizeOf4
 v4:=zeroValue4
 t5:=underlying5
 a5:=isAgg5
 z5:=sizeOf5
 v5:=zeroValue5
 t21:=underlying21
 a21:=isAgg21
 z21:=sizeOf21
 v21:=zeroValue21
 t37:=underlying160
 a37:=isAgg160
 z37:=sizeOf160
 v37:=zeroValue160
 t46:=underlying140
 a46:=isAgg140
 z46:=sizeOf140
 v46:=zeroValue140
 t51:=underlying206
 a51:=isAgg206
 z51:=sizeOf206
 v51:=zeroValue206}
theorem qn B v n g r(d:-2147483648<=r)(f:r<=2147483647)w(b:w.ownsRow B 5 1 v n g)(a:n+4<=140737488355328)(c:B<=w.heap.size):
 Cw 243 #[v,.int .i32 r] w λe w'=>∃h,e=Rw h/\w'.ownsRow B 5 1 h (n+(Lib.runeCells r).length) (g++Lib.runeCells r)/\∃o,(w.alloc o).grownBy w' v.ownBlock:=Any.utf8_AppendRune_plain L5 ns B v n g r d f w b a c
end
def enc(zs:List Int):List UInt8:=zs.flatMap Lib.encodeRune
theorem H7(a:List Int)k(h:k<a.length):enc (a.take (k+1))=enc (a.take k)++Lib.encodeRune (a[k]?.getD 0):=by unfold enc;rw[gG h,List.flatMap_append];simp[h]
theorem lD r:(Lib.encodeRune r).length<=4:=by have:=(Lib.runeCells_le r).2;rwa[Lib.runeCells_length]at this
theorem uY a:(enc a).length<=4*a.length:=by
 induction a with
 |nil=>simp[enc]
 |cons z a b=>grind[lD,enc]
theorem MM(a:List Int)k(h:k<=a.length):(enc (a.take k)).length<=4*k:=by grind[uY]
theorem n_ n:Lib.encodeRune (nw n)=Lib.encodeRune n:=by unfold Lib.encodeRune;rw[uZ]
theorem wR{w}{B n}{v}{l}(h:w.ownsRow B 5 1 v n (Lib.byteCells l)):
 (convert 160 9 v).run prog w=.ok (.string ⟨l.toArray⟩) w:=by
 obtain⟨i,d⟩:=h;rw[Lib.byteCells_length]at i;rcases d with⟨rfl,rfl⟩|⟨g,a,c,rfl,_,f,_,_,_,b⟩;·have:=jg.1 dg;subst this;exact Lib.run_convert_nil_bytes w 160 9 5 0 underlying160 underlying5 underlying9
 ·have e:n=l.length:=dg
  subst e;exact run_convert_bytes_back w 160 9 5 (aj g 0) a l underlying160 underlying5 underlying9 (Lib.bytes_of_row f rd)
theorem Ji{w:World}{B}{v}{l}{r}(h:w.ownsRow B 5 1 v (l.length+(Lib.runeCells r).length) (Lib.byteCells l++Lib.runeCells r)):
 w.ownsRow B 5 1 v (l++Lib.encodeRune r).length (Lib.byteCells (l++Lib.encodeRune r)):=by rw[Lib.byteCells_append,Lib.byteCells_encodeRune,aU,<-Lib.runeCells_length];exact h
theorem vc(a:List Int)(b off n:Nat)(w:World)(C:b<w.heap.size)(hc:∀j,j<a.length->w.cell? (aj b (off+j))=some (Iq (a[j]?.getD 0)))(z:a.length<=17592186044416):
 Cw 223 #[.slice (some (aj b off)) a.length n] w λe w'=>e=Rw (.string ⟨(enc a).toArray⟩)/\Bt w w':=by
 have A:=qH<|hc;clear hc;go_enter func223,ntmps223;go_wp2;go_loopw[3,8] (λv i wr=>∃k:Nat,k<=a.length/\i=Iq k/\wr.ownsRow w.heap.size 5 1 v (enc (a.take k)).length (Lib.byteCells (enc (a.take k)))/\Bt w wr) (λ_ i _=>a.length-(intOf i).toNat);case atStart=>exact⟨0,aR _,rfl,by simpa[enc,Lib.byteCells]using eO _ _ _ _,af _ _⟩
 case round=>
  obtain⟨k,E,rfl,c,d⟩:=hrel;have G:=MM a k E;by_cases h:k<a.length
  ·obtain⟨x,t⟩:=ad (a[k]?.getD 0);have s:wr.cell? (aj b (off+k))=some (Iq x):=by rw[<-t];exact(d.cell (p:=(aj b (off+k))) C).trans (A k h)
   have I:=JH x;have m:=d.size;have B:Hid (enc (a.take (k+1))=enc (a.take k)++Lib.encodeRune (nw x)):=by show _=_;rw[H7 a k h,t,n_]
   clear t;have l:(k:Int)<(a.length:Int):=dg;go_wp2_with(first|(go_at_call 244;refine(Ck _ _).mono ?_;rintro e w' ⟨rfl,rfl⟩)|(go_at_call 243;refine(qn w.heap.size _ _ _ _ dg dg _ c dg m).mono ?_));rintro e H ⟨J,rfl,g,o,y⟩;have f:=λq F=>(c.lt q F).1;have r:=(d.alloc m o).grown y (by simp;omega) f;clear s c y f d;go_wp2;go_roundw;case rel=>refine⟨k+1,dg,by go_num,?_,r⟩;rw[B.out];exact Ji g
   case measure=>simp[intOf];omega
  ·have u:k=a.length:=dg
   have l:¬(k:Int)<(a.length:Int):=dg;rw[u,io]at c;have D:=wR c;clear u;go_wp2;go_ret;simp_all
def Sc(r:Int):Prop:=(0<=r/\r<55296)\/(57343<r/\r<=1114111)
def Good(r:Int):Prop:=Sc r/\dV r=r
theorem f_ l t k(h:k<l.length):aY (l++t) k=(l.getD k 0).toNat:=by grind[aY]
theorem KO(x:Int)(a:0<=x)(h1:x<256):(x.toNat.toUInt8).toNat=x.toNat:=by simp;omega
theorem Li r(h:Sc r)t:qE (Lib.encodeRune r++t)=(r.toNat,(Lib.encodeRune r).length):=by
 unfold Sc at h;by_cases a:0<=r/\r<=127
 ·have e:Lib.encodeRune r=[r.toNat.toUInt8]:=by unfold Lib.encodeRune;rw[Lib.encodeRuneZ_one a.1 a.2];rfl
  rw[e];have g:aY ([r.toNat.toUInt8]++t) 0=r.toNat:=by rw[f_ _ _ _ rn];exact KO r dg dg
  rw[Di _ (by rw[g];omega),g];rfl
 by_cases b:128<=r/\r<=2047
 ·have e:Lib.encodeRune r=[(192+r/64).toNat.toUInt8,(128+r %64).toNat.toUInt8]:=by unfold Lib.encodeRune;rw[Lib.encodeRuneZ_two b.1 b.2];rfl
  rw[e];generalize f:[(192+r/64).toNat.toUInt8,(128+r %64).toNat.toUInt8]++t=l;have g:aY l 0=(192+r/64).toNat:=by rw[<-f,f_ _ _ _ rn];exact KO _ dg dg
  have i:aY l 1=(128+r %64).toNat:=by rw[<-f,f_ _ _ _ rn];exact KO _ dg dg
  have c1:=(gJ l 1).2 ⟨by rw[<-f];simp,dg,dg⟩;unfold qE;rw[if_neg dg,if_pos (by rw[c1,g];simp;omega),if_pos dg,g,i];simp;omega
 by_cases c:(2048<=r/\r<55296)\/(57343<r/\r<=65535)
 ·have e:Lib.encodeRune r=[(224+r/4096).toNat.toUInt8,(128+r/64 %64).toNat.toUInt8,(128+r %64).toNat.toUInt8]:=by unfold Lib.encodeRune;rw[Lib.encodeRuneZ_three c];rfl
  rw[e];generalize f:[(224+r/4096).toNat.toUInt8,(128+r/64 %64).toNat.toUInt8,(128+r %64).toNat.toUInt8]++t=l;have g:aY l 0=(224+r/4096).toNat:=by rw[<-f,f_ _ _ _ rn];exact KO _ dg dg
  have i:aY l 1=(128+r/64 %64).toNat:=by rw[<-f,f_ _ _ _ rn];exact KO _ dg dg
  have n:aY l 2=(128+r %64).toNat:=by rw[<-f,f_ _ _ _ rn];exact KO _ dg dg
  have c1:=(gJ l 1).2 ⟨by rw[<-f];simp,dg,dg⟩;have c2:=(gJ l 2).2 ⟨by rw[<-f];simp,dg,dg⟩;have m:aY l 0 %16*4096+aY l 1 %64*64+aY l 2 %64=r.toNat:=dg
  have j:¬(aY l 0/32==6&&cnt l 1)=true:=by simp;omega
  have k:(aY l 0/16==14&&cnt l 1&&cnt l 2)=true:=by simp[c1,c2];omega
  unfold qE;grind[fw]
 ·have d:65536<=r/\r<=1114111:=dg
  have e:Lib.encodeRune r=[(240+r/262144).toNat.toUInt8,(128+r/4096 %64).toNat.toUInt8,(128+r/64 %64).toNat.toUInt8,(128+r %64).toNat.toUInt8]:=by unfold Lib.encodeRune;rw[Lib.encodeRuneZ_four d.1 d.2];rfl
  rw[e];generalize f:[(240+r/262144).toNat.toUInt8,(128+r/4096 %64).toNat.toUInt8,(128+r/64 %64).toNat.toUInt8,(128+r %64).toNat.toUInt8]++t=l;have g:aY l 0=(240+r/262144).toNat:=by rw[<-f,f_ _ _ _ rn];exact KO _ dg dg
  have i:aY l 1=(128+r/4096 %64).toNat:=by rw[<-f,f_ _ _ _ rn];exact KO _ dg dg
  have n:aY l 2=(128+r/64 %64).toNat:=by rw[<-f,f_ _ _ _ rn];exact KO _ dg dg
  have p:aY l 3=(128+r %64).toNat:=by rw[<-f,f_ _ _ _ rn];exact KO _ dg dg
  have c1:=(gJ l 1).2 ⟨by rw[<-f];simp,dg,dg⟩;have c2:=(gJ l 2).2 ⟨by rw[<-f];simp,dg,dg⟩;have c3:=(gJ l 3).2 ⟨by rw[<-f];simp,dg,dg⟩;have m:aY l 0 %8*262144+aY l 1 %64*4096+aY l 2 %64*64+aY l 3 %64=r.toNat:=dg
  have j:¬(aY l 0/32==6&&cnt l 1)=true:=by simp;omega
  have k:¬(aY l 0/16==14&&cnt l 1&&cnt l 2)=true:=by simp;omega
  have o:(aY l 0/8==30&&cnt l 1&&cnt l 2&&cnt l 3)=true:=by simp[c1,c2,c3];omega
  unfold qE;rw[if_neg dg,if_neg j,if_neg k,if_pos o,m,if_pos];·rfl
  ·simp only[nG,decide_eq_true_eq,fw];omega
theorem Hz r R:enc (r::R)=Lib.encodeRune r++enc R:=by simp[enc]
theorem sR r t:Lib.encodeRune r++t≠[]:=by intro e;have:=(Lib.runeCells_le r).1;rw[Lib.runeCells_length]at this;have h:=congrArg List.length e;simp only[aU,fP]at h;omega
theorem FY R(h:∀r∈R,Good r):ak (enc R)=R:=by
 induction R with
 |nil=>simp[enc,jb]
 |cons r R f=>
  have b:=h r rn;have hd:=Li r b.1 (enc R);have c:0<=r:=by rcases b.1 with a|a<;>omega
  rw[Hz,fW (sR r _),hd,List.drop_left,f (λx d=>h x (by simp[d]))];have e:dV ((r.toNat:Nat):Int)=r:=by rw[Int.toNat_of_nonneg c];exact b.2
  rw[e]
theorem Oc l:Sc ((qE l).1:Int):=by grind[jX,Sc,qE,aY,cnt,fw]
theorem Cp r(h:Sc r):Good (dV r):=by grind[Good,Sc,dV]
theorem rO l:∀r∈ak l,Good r:=by
 generalize d:l.length=n;induction n using Nat.strongRecOn generalizing l with
 |_ n b=>
  by_cases h:l=[];·subst h;rw[jb];simp
  ·rw[fW h];have hp:=mR l;have c:=jI.2 h;intro r a;rcases gE.1 a with rfl|a;·exact Cp _ (Oc l)
   ·exact b (l.drop (qE l).2).length (by rw[cL];omega) _ rfl r a
def dO(r:Int):Bool:=decide (r≠10/\jF r=0)
theorem mU r:dO r=true↔r≠10/\jF r=0:=by simp[dO]
theorem ep r:dO r=false↔¬(r≠10/\jF r=0):=by grind[mU,dO]
theorem eG{α:Type}p(l:List α)k(g:k<=l.length)(h:∀j (b:j<l.length),j<k->p l[j]=true)(f:∀b,p l[k]=false):l.takeWhile p=l.take k:=by
 induction l generalizing k with
 |nil=>simp
 |cons a l e=>
  cases k with
  |zero=>simp_all
  |succ k=>have c:=h 0 rn dg;simp at c;simp only[List.takeWhile_cons,c,if_true,List.take_succ_cons];rw[e k rd (λj b d=>rd) (λb=>rd)]
def sK(R:List Int):List Int:=R.takeWhile dO
theorem OE R:(sK R).length<=R.length:=(List.takeWhile_sublist _).length_le
def dW(R:List Int):Int:=match R with|[]=>32|r::_=>if dO r=true then 32 else r
def lz(R:List Int):Nat:=match R with|[]=>0|r::_=>if dO r=true then 0 else 1
def dc(R:List Int):List Int:=sK (R.drop (lz R))
def fK(R:List Int):Nat:=match R with|[]=>0|r::_=>if r=10 then 1 else lz R+(dc R).length
def ee(R:List Int):List UInt8:=match R with|[]=>[]|r::_=>if r=10 then[10]else enc (dW R::(dc R).take 4)
def ef(R:List Int):Int:=match R with|[]=>0|r::_=>if r=10 then 0 else jF (dW R)
theorem ed{R}(h:R≠[]):1<=fK R:=by
 match R,h with
 |r::t,_=>
  simp only[fK];split;·omega
  ·by_cases a:dO r=true;all_goals simp_all[lz,dc,sK]
theorem Db R:fK R<=R.length:=by
 match R with
 |[]=>simp[fK]
 |r::t=>grind[fK,OE,lz,dc]
def tH:Nat->List Int->List (List UInt8×Int)
 |0,_=>[]
 |_+1,[]=>[]
 |f+1,r::t=>(ee (r::t),ef (r::t))::tH f ((r::t).drop (fK (r::t)))
theorem mQ:∀  f g   l,l.length<=f->l.length<=g->tH f l=tH g l
 |0,0,_,_,_=>rfl
 |0,g+1,l,h,_=>by have:l=[]:=jg.1 dg;subst this;rfl
 |f+1,0,l,_,h=>by have:l=[]:=jg.1 dg;subst this;rfl
 |f+1,g+1,[],_,_=>rfl
 |f+1,g+1,r::t,a,b=>by have hp:=ed (R:=r::t) rn;simp only[dP]at a b;simp only[tH];rw[mQ f g _ rd rd]
def aG(R:List Int):List (List UInt8×Int):=tH R.length R
theorem gQ:aG []=[]:=rfl
theorem dj{R}(h:R≠[]):aG R=(ee R,ef R)::aG (R.drop (fK R)):=by
 cases R with
 |nil=>grind
 |cons r t=>grind[ed,tH,aG,mQ]
theorem bu R:(aG R).length<=R.length:=by
 generalize b:R.length=n;induction n using Nat.strongRecOn generalizing R with
 |_ n c=>
  by_cases h:R=[];·grind[gQ]
  ·rw[dj h];have hp:=ed h;have a:=jI.2 h;grind
theorem oF:jF 32=1:=by decide+kernel
theorem He R:0<=ef R/\ef R<=2:=by
 match R with
 |[]=>simp[ef]
 |r::t=>
  simp only[ef];split;·omega
  ·exact O6 _
theorem cE R:∀c∈aG R,0<=c.2/\c.2<=2:=by
 generalize b:R.length=n;induction n using Nat.strongRecOn generalizing R with
 |_ n d=>
  by_cases h:R=[];·grind[gQ]
  ·rw[dj h];have hp:=ed h;have a:=jI.2 h;grind[He,fK]
def ai(l:List (List UInt8×Int)):Int:=(l.map (·.2)).sum
theorem wideSum_snoc(l:List (List UInt8×Int))k h:ai (l.take (k+1))=ai (l.take k)+(l[k]'h).2:=by unfold ai;rw[gG h,kQ,Kl];grind
theorem bB(l:List (List UInt8×Int))(h:∀c∈l,0<=c.2/\c.2<=2)k:0<=ai (l.take k)/\ai (l.take k)<=2*k:=by
 induction k with
 |zero=>simp[ai]
 |succ k b=>
  by_cases a:k<l.length;·grind[wideSum_snoc]
  ·rw[eP dg]at*;omega
theorem IB:dO 10=false:=by rw[ep];simp
theorem qU:dO 32=false:=by rw[ep,oF];simp
def dC(R:List Int):List Int:=match R with|[]=>[]|r::_=>if r=10 then[10]else dW R::(dc R).take 4
theorem Ll:enc [10]=[10]:=by decide+kernel
theorem nU R:ee R=enc (dC R):=by
 match R with
 |[]=>rfl
 |r::t=>grind[ee,dC,Ll]
def ri:Nat->List Int->List Int
 |0,_=>[]
 |_+1,[]=>[]
 |f+1,r::t=>dC (r::t)++ri f ((r::t).drop (fK (r::t)))
theorem m9:∀  f g   l,l.length<=f->l.length<=g->ri f l=ri g l
 |0,0,_,_,_=>rfl
 |0,g+1,l,h,_=>by have:l=[]:=jg.1 dg;subst this;rfl
 |f+1,0,l,_,h=>by have:l=[]:=jg.1 dg;subst this;rfl
 |f+1,g+1,[],_,_=>rfl
 |f+1,g+1,r::t,a,b=>by have hp:=ed (R:=r::t) rn;simp only[dP]at a b;simp only[ri];rw[m9 f g _ rd rd]
def BH(R:List Int):List Int:=ri R.length R
theorem xY:BH []=[]:=rfl
theorem tY{R}(h:R≠[]):BH R=dC R++BH (R.drop (fK R)):=by
 cases R with
 |nil=>exact absurd rfl h
 |cons r t=>have hp:=ed (R:=r::t) rn;show ri (t.length+1) (r::t)=_;simp only[ri,BH];rw[m9 t.length _ _ (by rw[cL,dP];omega) (ae _)]
theorem Dj a b:enc (a++b)=enc a++enc b:=by simp[enc]
def aB(l:List (List UInt8×Int)):List UInt8:=l.flatMap (·.1)
theorem Bo R:aB (aG R)=enc (BH R):=by
 generalize c:R.length=n;induction n using Nat.strongRecOn generalizing R with
 |_ n a=>
  by_cases h:R=[];·subst h;rw[gQ,xY];rfl
  ·have hp:=ed h;have b:=jI.2 h;have e:=a (R.drop (fK R)).length rd _ rfl;rw[dj h,tY h,Dj,<-e,<-nU];rfl
def uH(X:List Int):Prop:=∀x,X.head?=some x->dO x=false
theorem Dw M X(b:∀m∈M,dO m=true)(c:uH X):sK (M++X)=M:=by
 unfold sK;rw[List.takeWhile_append_of_pos (λa d=>b a d)];cases X with
 |nil=>simp
 |cons x X=>have:=c x rfl;simp[this]
theorem L9 L:∀m∈sK L,dO m=true:=by
 unfold sK;induction L with
 |nil=>simp
 |cons a L d=>
  intro m c;by_cases b:dO a=true;·rw[List.takeWhile_cons,if_pos b]at c;grind
  simp_all
theorem wJ r t:dO (dW (r::t))=false:=by grind[dW,qU]
theorem Ez{R}(h:R≠[])X:uH (dC R++X):=by
 match R,h with
 |r::t,_=>intro x a;grind[dC,IB,wJ]
theorem Ey{r}{t}(h:r≠10):dW (r::t)≠10:=by grind[dW]
theorem Hm{R}(h:R≠[])X(l:uH X):aG (dC R++X)=(ee R,ef R)::aG X:=by
 match R,h with
 |r::t,_=>
  by_cases a:r=10;·grind[dC,ee,ef,aG,dj,fK]
  ·have g:dC (r::t)=dW (r::t)::(dc (r::t)).take 4:=by simp only[dC,if_neg a]
   have i:ee (r::t)=enc (dW (r::t)::(dc (r::t)).take 4):=by simp only[ee,if_neg a]
   have j:ef (r::t)=jF (dW (r::t)):=by simp only[ef,if_neg a]
   have n:=wJ r t;have b:=Ey (t:=t) a;have k:∀m∈(dc (r::t)).take 4,dO m=true:=λm o=>L9 _ m (iH o);have d:((dc (r::t)).take 4).length<=4:=by rw[b_];omega
   rw[g,i,j];generalize dW (r::t)=B at*;generalize(dc (r::t)).take 4=M at*;have c:¬dO B=true:=by rw[n];simp
   rw[lT,dj rn];have e:lz (B::(M++X))=1:=by simp only[lz,if_neg c]
   have p:dW (B::(M++X))=B:=by simp only[dW,if_neg c]
   have f:dc (B::(M++X))=M:=by unfold dc;rw[e];exact Dw M X k l
   have q:fK (B::(M++X))=1+M.length:=by simp only[fK,if_neg b,e,f]
   have s:ee (B::(M++X))=enc (B::M):=by simp only[ee,if_neg b,p,f];rw[eP d]
   grind[ef,jF]
theorem qM:Good 32:=⟨.inl dg,rfl⟩
theorem wK R(h:∀r∈R,Good r):∀r∈dC R,Good r:=by
 match R with
 |[]=>grind[dC]
 |r::t=>
  intro x a;simp only[dC]at a;split at a;·grind
  ·rcases gE.1 a with rfl|a;·grind[dW,qM]
   ·have h1:=iH a;unfold dc sK at h1;have b:=(List.takeWhile_sublist _).subset h1;grind
theorem lC R:(dC R).length<=5:=by
 match R with
 |[]=>simp[dC]
 |r::t=>grind[dC]
theorem xX R:(BH R).length<=5*R.length:=by
 generalize a:R.length=n;induction n using Nat.strongRecOn generalizing R with
 |_ n b=>by_cases h:R=[];all_goals grind[xY,ed,Db,fK,lC,tY]
theorem lF s:(aB (aG (ak s))).length<=20*s.length:=by have a:=uY (BH (ak s));have b:=xX (ak s);have c:=aX s;rw[Bo];omega
theorem oR(l:List (List UInt8×Int))k h:aB (l.take (k+1))=aB (l.take k)++(l[k]'h).1:=by unfold aB;rw[gG h,List.flatMap_append];simp
theorem eu l k:(aB (l.take k)).length<=(aB l).length:=by unfold aB;have e:=(fy k l).symm;grind
def tx(l:List (List UInt8×Int))(n:Nat):List UInt8:=(l[n]?.map (·.1)).getD []
theorem sj{l}{n}(h:n<l.length):tx l n=(l[n]).1:=by simp[tx,h]
theorem vP l a n:tx (l.drop a) n=tx l (a+n):=by grind[tx]
theorem fx a b:ai (a++b)=ai a+ai b:=by grind[ai]
theorem cZ c b:ai (c::b)=c.2+ai b:=by simp[ai]
theorem eq c b:aB (c::b)=c.1++aB b:=by simp[aB]
theorem fg a b:aB (a++b)=aB a++aB b:=by simp[aB]
def cR:List (List UInt8×Int)->Int->Nat
 |[],_=>0
 |c::t,w=>if c.1=[10]\/w<c.2 then 0 else cR t (w-c.2)+1
theorem iA:∀  l   w,cR l w<=l.length
 |[],_=>ae _
 |c::t,w=>by
  simp only[cR];split;·simp
  ·have:=iA t (w-c.2);grind
def Fit(l:List (List UInt8×Int))(w:Int)(k:Nat):Prop:=∀j,j<k->tx l j≠[10]/\ai (l.take (j+1))<=w
theorem fitN_stop:∀  l   w   k,k<=l.length->Fit l w k->(k<l.length->tx l k=[10]\/w<ai (l.take (k+1)))->cR l w=k
 |[],w,k,e,_,_=>by grind[cR]
 |c::t,w,0,_,_,d=>by grind[tx,cZ,ai,cR]
 |c::t,w,k+1,e,b,d=>by
  have a:=b 0 dg;simp only[tx,List.take_succ_cons,Au,cZ,Ku,Option.map_some,Km,show ai []=0 from rfl,Aw]at a;have f:¬(c.1=[10]\/w<c.2):=by rintro(h|h);exact a.1 h;omega
  simp only[cR,if_neg f];rw[fitN_stop t (w-c.2) k rd (λj g=>by have:=b (j+1) dg;grind[cZ,tx]) (λh=>by grind[cZ,tx])]
theorem iU:∀  l   w,(∀c∈l,0<=c.2/\c.2<=2)->Fit l w (cR l w)/\(cR l w<l.length->tx l (cR l w)=[10]\/w<ai (l.take (cR l w+1)))
 |[],w,_=>⟨λj a=>by simp[cR]at a,λh=>by simp at h⟩
 |c::t,w,b=>by
  by_cases h:c.1=[10]\/w<c.2;·simp only[cR,if_pos h];refine⟨λj a=>dg,λ_=>?_⟩;grind[tx,ai]
  ·have e:=iU t (w-c.2) (λx d=>b x (by simp[d]));simp only[cR,if_neg h];have f:=not_or.1 h;refine⟨λj a=>?_,λg=>?_⟩;·cases j with
    |zero=>grind[tx,ai]
    |succ j=>have:=e.1 j dg;grind[cZ,tx]
   grind[cZ,tx]
def cT(l:List (List UInt8×Int)):Nat->Int
 |0=>-1
 |n+1=>if tx l n=[32]then n else cT l n
theorem qZ l:∀n,cT l n<n/\-1<=cT l n
 |0=>by simp[cT]
 |n+1=>by have:=qZ l n;grind[cT]
structure Ri where
 n:Nat
 d:Nat
 e:Int
def aM(r:List (List UInt8×Int))(w:Int):Ri:=
 if cR r w=r.length then⟨cR r w,0,3⟩
 else if tx r (cR r w)=[10]then⟨cR r w,1,2⟩
 else if cR r w=0 then⟨1,0,1⟩
 else if tx r (cR r w)=[32]then⟨cR r w,1,0⟩
 else if 0<=cT r (cR r w)then⟨(cT r (cR r w)).toNat,1,0⟩
 else⟨cR r w,0,1⟩
theorem tK r w:(aM r w).n+(aM r w).d<=r.length:=by have h:=iA r w;have a:=qZ r (cR r w);grind[aM]
theorem Ba r w:(aM r w).e=3\/1<=(aM r w).n+(aM r w).d:=by grind[aM]
structure Ln where
 T:List UInt8
 W:Int
 F:Nat
 N:Nat
 E:Int
def cu(l:List (List UInt8×Int))(w:Int)(a:Nat):Ln:=
 let c:=aM (l.drop a) w
 let r:=(l.drop a).take c.n
 if w<ai r then⟨List.replicate w.toNat 32,w,a,1,c.e⟩else⟨aB r,ai r,a,r.length,c.e⟩
def nO(l:List (List UInt8×Int))(w:Int)(a:Nat):Nat:=a+(aM (l.drop a) w).n+(aM (l.drop a) w).d
theorem vs l w a(h:a<=l.length):nO l w a<=l.length:=by have:=tK (l.drop a) w;grind[nO]
theorem OB l w a:(cu l w a).E=(aM (l.drop a) w).e:=by grind[cu]
theorem nxt_lt l w a(h:(cu l w a).E≠3):a<nO l w a:=by grind[OB,Ba,nO]
def gW:Nat->List (List UInt8×Int)->Int->Nat->List Ln
 |0,_,_,_=>[]
 |f+1,l,w,a=>if(cu l w a).E=3 then[cu l w a]else cu l w a::gW f l w (nO l w a)
theorem lJ:∀  f g   l   w   a,a<=l.length->l.length<f+a->l.length<g+a->gW f l w a=gW g l w a
 |0,_,_,_,_,_,h,_=>dg
 |_+1,0,_,_,_,_,_,h=>dg
 |f+1,g+1,l,w,a,b,d,e=>by
  simp only[gW];split;·rfl
  ·rename_i c;have:=nxt_lt l w a c;rw[lJ f g l w (nO l w a) (vs l w a b) dg dg]
def cY(l:List (List UInt8×Int))(w:Int)(a:Nat):List Ln:=gW (l.length+1-a) l w a
theorem jn{l}{w}{a}(b:a<=l.length)(h:(cu l w a).E=3):cY l w a=[cu l w a]:=by unfold cY;rw[show l.length+1-a=(l.length-a)+1 by omega];grind[gW]
theorem kq{l}{w}{a}(b:a<=l.length)(h:(cu l w a).E≠3):cY l w a=cu l w a::cY l w (nO l w a):=by have h1:=nxt_lt l w a h;have c:=vs l w a b;unfold cY;rw[show l.length+1-a=(l.length-a)+1 by omega];grind[gW,lJ,nO]
theorem dQ l w a(b:a<=l.length):1<=(cY l w a).length/\(cY l w a).length<=l.length+1-a:=by
 generalize c:l.length-a=n;induction n using Nat.strongRecOn generalizing a with
 |_ n d=>grind[cu,jn,nxt_lt,vs,kq,nO]
def a_(l:List (List UInt8×Int))(w:Int):List Ln:=if w<1 then[]else cY l w 0
def bN(w:World):Prop:=∀i,i<26->w.cell? (aj 10 (i*3))=some (Iq (cQ i).1)/\w.cell? (aj 10 (i*3+1))=some (Iq (cQ i).2.1)/\w.cell? (aj 10 (i*3+2))=some (Iq (cQ i).2.2)
theorem l'(r:Int)(w:World)(v:bN w):
 Cw 224 #[Iq r] w λe w'=>e=Rw (Iq (jF r))/\w'=w:=by
 have x:=qH<|v;clear v;by_cases l:r=10;·subst l;rw[MV];go_enter func224,ntmps224;go_wp2;go_ret;simp_all
 ·have q:(r==10)=false:=by simp[l]
  have o:Hid (r≠10):=l;clear l;go_enter func224,ntmps224;go_wp2;go_loop[3,4] (λa b=>∃lo hi:Nat,lo<=hi/\hi<=26/\a=Iq lo/\b=Iq hi/\Hid (uF r lo hi)) (λa b=>(intOf b-intOf a).toNat);case atStart=>exact⟨0,26,dg,dg,rfl,rfl,half_start r⟩
  case round=>
   obtain⟨lo,hi,C,z,rfl,rfl,hh⟩:=hrel;by_cases D:lo<hi
   ·have n:(lo:Int)<(hi:Int):=dg
    obtain⟨d,E⟩:∃d:Nat,d=(lo+hi)/2:=⟨_,rfl⟩;have t:((lo:Int)+(hi:Int))/2=(d:Int):=dg;have j:d<26:=dg;have u:lo<=d:=dg;have s:d<hi:=dg;clear E;obtain⟨y,c1,c2⟩:=x d j;obtain⟨a,b,c,hs⟩:∃a b c,cQ d=(a,b,c):=⟨_,_,_,rfl⟩;rw[hs]at y c1 c2;have m:=qH<|hs;clear hs;have f:r<a->Hid (uF r lo d):=λh=>Fe hh j (by rw[m.out];exact h);have g:b<r->Hid (uF r (d+1) hi):=λh=>Il hh j (by rw[m.out];exact h);have i:Hid (a<=r->r<=b->jF r=c):=λh k=>by have:=J7 r _ (Cq j) (by rw[m.out];exact h) (by rw[m.out];exact k);rw[m.out]at this;exact this
    by_cases A:r<a
    ·have h1:=f A;clear f g i hh;go_wp2;go_round;case rel=>grind
     case measure=>simp[intOf];omega
    ·by_cases B:b<r
     ·have F:=g B;clear f g i hh;go_wp2;go_round;case rel=>grind
      case measure=>simp[intOf];omega
     ·have p:=qH<|i dg dg;clear f g i hh;go_wp2;go_ret;rw[p.out];simp_all
   ·have n:¬(lo:Int)<(hi:Int):=dg
    have p:=qH<|half_end hh dg o;clear hh;go_wp2;go_ret;rw[p.out];simp_all
theorem sS(a:Option Addr)(b:Nat)(w:World):
 Cw 223 #[.slice a 0 b] w λe w'=>e=Rw (.string ⟨#[]⟩)/\Bt w w':=by
 have c:=wR (l:=[]) (show w.ownsRow w.heap.size 5 1 (.slice none 0 0) 0 (Lib.byteCells [])from eO w w.heap.size 5 1);go_enter func223,ntmps223;go_wp2;go_loop[3,8] (λv i=>v=.slice none 0 0/\i=Iq 0) (λ_ _=>0);case atStart=>grind
 case round=>obtain⟨rfl,rfl⟩:=hrel;go_wp2;go_ret;exact⟨rfl,af _ _⟩
theorem oO f v w(h:AK w v f)(d:f.length<=17592186044416):
 Cw 223 #[v] w λe w'=>e=Rw (.string ⟨(enc f).toArray⟩)/\Bt w w':=by
 obtain⟨a,c,rfl,rfl|⟨b,off,rfl,g,i⟩⟩:=h;·exact sS a c w
 ·exact vc f b off c w g i d
theorem kY{w}{B n}{v}{a}(h:w.ownsRow B 3 1 v n (a.map (Value.int .i64))):AK w v a:=by
 have c:a.length=n:=by have:=h.1;simpa using this
 rcases h.2 with⟨rfl,rfl⟩|⟨g,b,d,rfl,_,f,_⟩;·have k:=jg.1 c;subst k;exact⟨none,0,rfl,.inl rfl⟩
 ·refine⟨some (aj g 0),b,by rw[c],.inr ⟨g,0,rfl,(aD.1 f).1,λj i=>?_⟩⟩;have:=h.cells (g:=g) rfl j (Iq (a[j]?.getD 0)) (by simp[i]);have e:((aj g 0):Addr).add j=(aj g (0+j)):=by unfold Addr.add;split<;>simp_all
  grind
theorem vJ(a b:List UInt8):(⟨a.toArray⟩:ByteArray)++(⟨b.toArray⟩:ByteArray)=⟨(a++b).toArray⟩:=by apply kM;simp
def sH(c:List UInt8×Int):Prop:=∃X,(∀r∈X,Good r)/\X≠[]/\uH X/\enc X=c.1/\∀Y,uH Y->aG (X++Y)=c::aG Y
theorem I_:uH []:=λx a=>rd
theorem I9{X}(h:X≠[])(a:uH X)Y:uH (X++Y):=by
 match X,h with
 |x::t,_=>intro y hy;exact a y rd
theorem wP R(e:∀r∈R,Good r):∀c∈aG R,sH c:=by
 generalize g:R.length=n;induction n using Nat.strongRecOn generalizing R with
 |_ n i=>
  by_cases h:R=[];·grind[gQ]
  ·have hp:=ed h;have f:=jI.2 h;rw[dj h];intro c b;rcases gE.1 b with rfl|b
   ·have a:dC R≠[]:=by
     match R,h with
     |r::t,_=>grind[dC]
    exact⟨dC R,wK R e,a,by simpa using Ez h [],(nU R).symm,λY d=>Hm h Y d⟩
   grind
theorem ya:∀  L,(∀c∈L,sH c)->∃X,(∀r∈X,Good r)/\uH X/\enc X=aB L/\aG X=L
 |[],_=>⟨[],rn,I_,rfl,rfl⟩
 |c::L,h=>by obtain⟨Y,j,k,i,g⟩:=ya L (λx l=>h x (by simp[l]));obtain⟨X,e,a,f,d,b⟩:=h c rn;grind[I9,Dj,eq]
theorem iZ L(h:∀c∈L,sH c):aG (ak (aB L))=L:=by obtain⟨X,d,_,b,a⟩:=ya L h;grind[FY]
theorem vr r(d:Good r)(e:dO r=false)(b:r≠10):sH (enc [r],jF r):=by
 refine⟨[r],by simpa using d,rn,λx g=>rd,rfl,λY c=>?_⟩;have a:¬dO r=true:=by rw[e];simp
 show aG (r::Y)=_;rw[dj rn];have f:lz (r::Y)=1:=by simp only[lz,if_neg a]
 have h:dW (r::Y)=r:=by simp only[dW,if_neg a]
 have i:dc (r::Y)=[]:=by unfold dc;rw[f];exact Dw [] Y rn c
 simp_all[fK,ee,enc,ef,jF]
theorem E2:enc [32]=[32]:=by decide+kernel
theorem J5:jF 8230=1:=by decide+kernel
theorem H6:enc [8230]=[226,128,166]:=by decide+kernel
theorem Fc:Good 8230:=⟨.inl dg,rfl⟩
theorem k_:sH ([32],1):=by grind[vr,qM,qU,E2,oF]
theorem I':sH ([226,128,166],1):=by grind[vr,Fc,ep,J5,H6]
def one(l:List (List UInt8×Int)):List (List UInt8×Int):=l.map λc=>if c.1=[10]then([32],1)else c
theorem mi l:(one l).length=l.length:=by simp[one]
theorem Md{l}(h:∀c∈l,sH c):∀c∈one l,sH c:=by intro c a;obtain⟨d,hd,rfl⟩:=jL.1 a;grind[k_]
theorem DB l:∀c∈one l,c.1≠[10]:=by intro c a;obtain⟨d,hd,rfl⟩:=jL.1 a;grind
theorem jl R:∀c∈aG R,c.1.length<=20:=by
 generalize b:R.length=n;induction n using Nat.strongRecOn generalizing R with
 |_ n d=>
  by_cases h:R=[];·grind[gQ]
  ·have hp:=ed h;have a:=jI.2 h;grind[dj,ee,nU,uY,dC,lC,fK]
theorem iW:∀  l,(∀c∈l,c.1.length<=20)->(aB l).length<=20*l.length
 |[],_=>by simp[aB]
 |c::l,h=>by have a:=iW l (λx b=>h x (by simp[b]));grind[eq]
theorem t_{l}(h:∀c∈l,c.1.length<=20):∀c∈one l,c.1.length<=20:=by intro c a;obtain⟨d,hd,rfl⟩:=jL.1 a;grind
theorem rl{l}(h:∀c∈l,0<=c.2/\c.2<=2):∀c∈one l,0<=c.2/\c.2<=2:=by intro c a;obtain⟨d,hd,rfl⟩:=jL.1 a;grind
theorem pK l(h:∀c∈l,0<=c.2/\c.2<=2)k:ai (l.take k)<=ai l:=by
 have e:ai l=ai (l.take k)+ai (l.drop k):=by rw[<-fx,fy]
 have:=bB (l.drop k) (λc a=>h c (iI a)) (l.drop k).length;grind
theorem Lr l W(h:∀c∈l,0<=c.2/\c.2<=2)(b:∀c∈l,c.1≠[10])(f:0<=W):cR l W=l.length↔ai l<=W:=by
 have sp:=iU l W h;have i:=iA l W;constructor;·intro e;cases g:l.length with
  |zero=>have:=jg.1 g;subst this;exact f
  |succ n=>have:=(sp.1 n dg).2;grind
 ·intro e;by_cases a:cR l W<l.length
  ·rcases sp.2 a with d|d;·grind[sj]
   ·have:=pK l h (cR l W+1);omega
  ·omega
theorem vN(l:List (List UInt8×Int))(h:∀c∈l,0<=c.2/\c.2<=2){j k}(a:j<=k):ai (l.take j)<=ai (l.take k):=by
 induction k with
 |zero=>grind
 |succ k b=>
  by_cases e:j=k+1;·grind
  ·have:=b dg;by_cases d:k<l.length;·grind[wideSum_snoc]
   ·rw[eP (show l.length<=k+1 by omega)];rw[eP (show l.length<=k by omega)]at this;omega
theorem Ie(r:List (List UInt8×Int))w(h:∀c∈r,0<=c.2/\c.2<=2)(b:1<=w):ai (r.take (cR r w))<=w:=by
 have sp:=(iU r w h).1;cases a:cR r w with
 |zero=>show(0:Int)<=w;omega
 |succ n=>exact(sp n dg).2
theorem JW(r:List (List UInt8×Int))(h:∀c∈r,0<=c.2/\c.2<=2):ai (r.take 1)<=2:=by have:=(bB r h 1).2;omega
theorem xz(w:World)b c a(h:c=(b.map (Value.int .i64)).toArray):AK (w.alloc (.cells c 3)) (Sq w.heap.size b.length a) b:=by subst h;refine⟨_,a,rfl,.inr ⟨w.heap.size,0,rfl,rn,λj d=>?_⟩⟩;simp_all
theorem ur(w:World):
 Cw 166 #[] w λe w'=>∃v,e=Rw v/\AK w' v (ka fZ)/\Bt w w':=by go_enter func166,ntmps166;go_wp2;go_ret;exact⟨_,rfl,xz w (ka fZ) _ 26 rfl,(af _ _).alloc (ae _) _⟩
theorem Gm(w:World):
 Cw 167 #[] w λe w'=>∃v,e=Rw v/\AK w' v (ka ij)/\Bt w w':=by go_enter func167,ntmps167;go_wp2;go_ret;exact⟨_,rfl,xz w (ka ij) _ 28 rfl,(af _ _).alloc (ae _) _⟩
theorem xy(r:Int)(l:List (Int×Int))(C:l.length<=1000)(b off o:Nat)(w:World)(x:∀j,j<(ka l).length->w.cell? (aj b (off+j))=some (Iq ((ka l)[j]?.getD 0))):
 Cw 165 #[Iq r,.slice (some (aj b off)) (ka l).length o] w λe w'=>e=Rw (.bool (It r l))/\w'=w:=by
 have u:=qH<|x;clear x;have hfl:=oN l;have g:=qH<|hfl;rw[hfl];clear hfl;go_enter func165,ntmps165;go_wp2;go_loop[5] (λi=>∃k:Nat,k<=l.length/\i=Iq (2*k:Nat)/\Hid (∀j,j<k->¬((l.getD j (0,0)).1<=r/\r<=(l.getD j (0,0)).2))) (λi=>2*l.length-(intOf i).toNat);case atStart=>exact⟨0,aR _,rfl,λj h=>dg⟩
 case round=>
  obtain⟨k,B,rfl,d⟩:=hrel;by_cases m:k<l.length
  ·have n:(2*(k:Int))+1<2*(l.length:Int):=dg
   obtain⟨p,q,hp⟩:∃p q,l.getD k (0,0)=(p,q):=⟨_,_,rfl⟩;have f:=Lt l k;rw[hp]at f;have A:w.cell? (aj b (off+2*k))=some (Iq p):=by rw[u (2*k) (by rw[g.out];omega),f.1]
   have c1:w.cell? (aj b (off+(2*k+1)))=some (Iq q):=by rw[u (2*k+1) (by rw[g.out];omega),f.2]
   have v:=qH<|hp;have c:(p,q)∈l:=by rw[<-hp,Ee,dI m];exact iE m
   have y:=qH<|c;clear f hp c;by_cases h1:p<=r
   ·by_cases z:r<=q;·have e:=qH<|(jm r l).2 ⟨_,y,h1,z⟩;go_wp2;go_ret;rw[e.out];simp_all
    ·go_wp2;go_round;case rel=>
      refine⟨k+1,dg,by go_num,λj t=>?_⟩;by_cases s:j=k;·subst s;rw[v.out];omega
      ·exact d j dg
     case measure=>simp[intOf];omega
   ·go_wp2;go_round;case rel=>
     refine⟨k+1,dg,by go_num,λj t=>?_⟩;by_cases s:j=k;·subst s;rw[v.out];omega
     ·exact d j dg
    case measure=>simp[intOf];omega
  ·have n:¬(2*(k:Int))+1<2*(l.length:Int):=dg
   have e:Hid (It r l=false):=by show _=_;rw[Bool.eq_false_iff];intro h;obtain⟨p,hp,a⟩:=(jm r l).1 h;obtain⟨j,t,rfl⟩:=o_.1 hp;have:=d j dg;rw[Ee,dI t]at this;exact this a
   go_wp2;go_ret;rw[e.out];simp_all
theorem md r l(f:l.length<=1000)(c:0<l.length)v w(h:AK w v (ka l)):
 Cw 165 #[Iq r,v] w λe w'=>e=Rw (.bool (It r l))/\w'=w:=by
 obtain⟨a,b,rfl,hh⟩:=h;have d:ka l≠[]:=λe=>by grind[oN]
 grind[xy]
theorem mq(r:Int)(w:World):
 Cw 83 #[Iq r] w λe w'=>e=Rw (Iq (jF r))/\Bt w w':=by
 unfold jF;by_cases a:It r fZ=true;·rw[if_pos a];have d:=qH<|a;clear a;go_enter func83,ntmps83;go_wp2_with fail;refine(ur _).mono ?_;rintro e j ⟨v1,rfl,c,f⟩;go_wp2_with fail;refine(md r fZ (by decide) (by decide) _ _ c).mono ?_;rintro e k ⟨rfl,rfl⟩;rw[d.out];go_wp2;go_ret;simp_all
 ·have d:Hid (It r fZ=false):=by show _=_;simpa using a
  rw[if_neg a];clear a;by_cases b:It r ij=true;focus rw[if_pos b];have g:=qH<|b
  rotate_left;focus rw[if_neg b];have g:Hid (It r ij=false):=by show _=_;simpa using b
  rotate_left;all_goals clear b;go_enter func83,ntmps83;go_wp2_with fail;refine(ur _).mono ?_;rintro e j ⟨v1,rfl,c,f⟩;go_wp2_with fail;refine(md r fZ (by decide) (by decide) _ _ c).mono ?_;rintro e k ⟨rfl,rfl⟩;rw[d.out];clear c;go_wp2_with fail;refine(Gm _).mono ?_;rintro e w3 ⟨l,rfl,h,i⟩;go_wp2_with fail;refine(md r ij (by decide) (by decide) _ _ h).mono ?_;rintro e m ⟨rfl,rfl⟩;rw[g.out];go_wp2;go_ret;exact⟨rfl,f.trans (i.mono f.size)⟩
