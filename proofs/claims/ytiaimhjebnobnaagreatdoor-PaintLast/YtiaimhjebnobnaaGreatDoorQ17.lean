import Derived.Shelf.Utf8.AppendRunePlain
import Derived.Test.YtiaimhjebnobnaaGreatDoorProg
import Derived.Test.YtiaimhjebnobnaaGreatDoorQ02
import Derived.Test.YtiaimhjebnobnaaGreatDoorQ15
import Derived.Lib.BufferRead
set_option linter.all false
set_option maxRecDepth 100000
set_option maxHeartbeats 16000000
namespace Go.Proofs.YtiaimhjebnobnaaGreatDoor
open Go.RowKit Go.Proofs.Tryz
section
open Go.Shelf
def DI:Go.Shelf.Ren:=⟨fun|242=>234|278=>249|n=>n,fun|37=>174|21=>21|51=>211|4=>4|5=>5|46=>140|n=>n,fun|n=>n⟩
theorem U8:Go.Proofs.Lays.n242 prog DI:={
 mixed:=by kernel_rfl
 f242:=func234.trans (congrArg some (by kernel_rfl))
 f278:=func249.trans (congrArg some (by kernel_rfl))
 t4:=underlying4
 a4:=isAgg4
 z4:=sizeOf4
 v4:=zeroValue4
 t5:=underlying5
 a5:=isAgg5
 z5:=sizeOf5
 v5:=zeroValue5
 t21:=underlying21
 a21:=isAgg21
 z21:=sizeOf21
 v21:=zeroValue21
 t37:=underlying174
 a37:=isAgg174
 z37:=sizeOf174
 v37:=zeroValue174
 t46:=underlying140
 a46:=isAgg140
 z46:=sizeOf140
 v46:=zeroValue140
 t51:=underlying211
 a51:=isAgg211
 z51:=sizeOf211
 v51:=zeroValue211}
theorem uD  B   v   n   xs   r  (MQ:-2147483648<=r) (hr1:r<=2147483647)  w  (bu:w.ownsRow B 5 1 v n xs) (bY:n+4<=140737488355328) (hBw:B<=w.heap.size):
 Cw 234 #[v,.int .i32 r] w fun e w'=>∃v',e=Rw v'/\w'.ownsRow B 5 1 v' (n+(Lib.runeCells r).length) (xs++Lib.runeCells r)/\∃o,(w.alloc o).grownBy w' v.ownBlock:=Any.utf8_AppendRune_plain U8 (by kernel_rfl) B v n xs r MQ hr1 w bu bY hBw
end
def enc(zs:List Int):List UInt8:=zs.flatMap Lib.encodeRune
theorem Oy(zs:List Int)  k  (h:k<zs.length):enc (zs.take (k+1))=enc (zs.take k)++Lib.encodeRune (zs[k]?.getD 0):=by unfold enc;rw[lk h,List.flatMap_append];simp[h]
theorem ou  r  :(Lib.encodeRune r).length<=4:=by have:=(Lib.runeCells_le r).2;rwa[Lib.runeCells_length]at this
theorem zX  zs  :(enc zs).length<=4*zs.length:=by
 induction zs with
 |nil=>simp[enc]
 |cons z zs ih=>grind[ou,enc]
theorem VM(zs:List Int)  k  (h:k<=zs.length):(enc (zs.take k)).length<=4*k:=by grind[zX]
theorem re  n  :Lib.encodeRune (qB n)=Lib.encodeRune n:=by unfold Lib.encodeRune;rw[zY]
theorem Cq{w}{B n}{v}{l}(h:w.ownsRow B 5 1 v n (Lib.byteCells l)):
 (convert 174 9 v).run prog w=.ok (.string ⟨l.toArray⟩) w:=by
 obtain⟨hl,h2⟩:=h;rw[Lib.byteCells_length]at hl;rcases h2 with⟨rfl,rfl⟩|⟨g,cap,ik,rfl,_,hg,_,_,_,zc_⟩;·have:=ln.1 (by omega);subst this;exact Lib.run_convert_nil_bytes w 174 9 5 0 underlying174 underlying5 underlying9
 ·have e:n=l.length:=by omega
  subst e;exact run_convert_bytes_back w 174 9 5 (az g 0) cap l underlying174 underlying5 underlying9 (Lib.bytes_of_row hg (by grind))
theorem Qs{w:World}{B}{v}{l}{r}(h:w.ownsRow B 5 1 v (l.length+(Lib.runeCells r).length) (Lib.byteCells l++Lib.runeCells r)):
 w.ownsRow B 5 1 v (l++Lib.encodeRune r).length (Lib.byteCells (l++Lib.encodeRune r)):=by rw[Lib.byteCells_append,Lib.byteCells_encodeRune,bm,<-Lib.runeCells_length];exact h
theorem z_(zs:List Int)(b off cap:Nat)(w:World)(hb:b<w.heap.size)(hc:∀j,j<zs.length->w.cell? (az b (off+j))=some (Iq (zs[j]?.getD 0)))(bY:zs.length<=17592186044416):
 Cw 215 #[.slice (some (az b off)) zs.length cap] w fun e w'=>e=Rw (.string ⟨(enc zs).toArray⟩)/\Bt w w':=by
 have HC:=qH<|hc;clear hc;go_enter func215,ntmps215;go_wp2;go_loopw[3,8] (fun v i wr=>∃k:Nat,k<=zs.length/\i=Iq k/\wr.ownsRow w.heap.size 5 1 v (enc (zs.take k)).length (Lib.byteCells (enc (zs.take k)))/\Bt w wr) (fun _ i _=>zs.length-(intOf i).toNat);case atStart=>exact⟨0,aZ _,rfl,by simpa[enc,Lib.byteCells]using gF _ _ _ _,aj _ _⟩
 case round=>
  obtain⟨k,hk,rfl,bu,Dq⟩:=hrel;have hte:=VM zs k hk;by_cases hlt:k<zs.length
  ·obtain⟨x,hx⟩:=ag (zs[k]?.getD 0);have YZ:wr.cell? (az b (off+k))=some (Iq x):=by rw[<-hx];exact(Dq.cell (p:=(az b (off+k))) hb).trans (HC k hlt)
   have hr:=QQ x;have f_:=Dq.size;have HX:Hid (enc (zs.take (k+1))=enc (zs.take k)++Lib.encodeRune (qB x)):=by show _=_;rw[Oy zs k hlt,hx,re]
   clear hx;have aN:(k:Int)<(zs.length:Int):=by omega
   go_wp2_with(first|(go_at_call 235;refine(Hq _ _).mono ?_;rintro e w' ⟨rfl,rfl⟩)|(go_at_call 234;refine(uD w.heap.size _ _ _ _ (by omega) (by omega) _ bu (by omega) f_).mono ?_));rintro e W1 ⟨v',rfl,bD,o,hg⟩;have hrow:=fun q hq=>(bu.lt q hq).1;have hb1:=(Dq.alloc f_ o).grown hg (by simp;omega) hrow;clear YZ bu hg hrow Dq;go_wp2;go_roundw;case rel=>refine⟨k+1,by omega,by go_num,?_,hb1⟩;rw[HX.out];exact Qs bD
   case measure=>simp[intOf];omega
  ·have ek:k=zs.length:=by omega
   have aN:¬(k:Int)<(zs.length:Int):=by omega
   rw[ek,l5]at bu;have OY:=Cq bu;clear ek;go_wp2;go_ret;simp_all
def Sc(r:Int):Prop:=(0<=r/\r<55296)\/(57343<r/\r<=1114111)
def Good(r:Int):Prop:=Sc r/\fj r=r
theorem iN  l t   k  (h:k<l.length):bB (l++t) k=(l.getD k 0).toNat:=by grind[bB]
theorem SS(x:Int)(h0:0<=x)(h1:x<256):(x.toNat.toUInt8).toNat=x.toNat:=by simp;omega
theorem TM  r  (h:Sc r)  t  :uT (Lib.encodeRune r++t)=(r.toNat,(Lib.encodeRune r).length):=by
 unfold Sc at h;by_cases a:0<=r/\r<=127
 ·have e:Lib.encodeRune r=[r.toNat.toUInt8]:=by unfold Lib.encodeRune;rw[Lib.encodeRuneZ_one a.1 a.2];rfl
  rw[e];have b0:bB ([r.toNat.toUInt8]++t) 0=r.toNat:=by rw[iN _ _ _ (by simp)];exact SS r (by omega) (by omega)
  rw[IE _ (by rw[b0];omega),b0];rfl
 by_cases b:128<=r/\r<=2047
 ·have e:Lib.encodeRune r=[(192+r/64).toNat.toUInt8,(128+r %64).toNat.toUInt8]:=by unfold Lib.encodeRune;rw[Lib.encodeRuneZ_two b.1 b.2];rfl
  rw[e];generalize hl:[(192+r/64).toNat.toUInt8,(128+r %64).toNat.toUInt8]++t=l;have b0:bB l 0=(192+r/64).toNat:=by rw[<-hl,iN _ _ _ (by simp)];exact SS _ (by omega) (by omega)
  have b1:bB l 1=(128+r %64).toNat:=by rw[<-hl,iN _ _ _ (by simp)];exact SS _ (by omega) (by omega)
  have c1:=(jo l 1).2 ⟨by rw[<-hl];simp,by omega,by omega⟩;unfold uT;rw[if_neg (by omega),if_pos (by rw[c1,b0];simp;omega),if_pos (by omega),b0,b1];simp;omega
 by_cases c:(2048<=r/\r<55296)\/(57343<r/\r<=65535)
 ·have e:Lib.encodeRune r=[(224+r/4096).toNat.toUInt8,(128+r/64 %64).toNat.toUInt8,(128+r %64).toNat.toUInt8]:=by unfold Lib.encodeRune;rw[Lib.encodeRuneZ_three c];rfl
  rw[e];generalize hl:[(224+r/4096).toNat.toUInt8,(128+r/64 %64).toNat.toUInt8,(128+r %64).toNat.toUInt8]++t=l;have b0:bB l 0=(224+r/4096).toNat:=by rw[<-hl,iN _ _ _ (by simp)];exact SS _ (by omega) (by omega)
  have b1:bB l 1=(128+r/64 %64).toNat:=by rw[<-hl,iN _ _ _ (by simp)];exact SS _ (by omega) (by omega)
  have b2:bB l 2=(128+r %64).toNat:=by rw[<-hl,iN _ _ _ (by simp)];exact SS _ (by omega) (by omega)
  have c1:=(jo l 1).2 ⟨by rw[<-hl];simp,by omega,by omega⟩;have c2:=(jo l 2).2 ⟨by rw[<-hl];simp,by omega,by omega⟩;have hv:bB l 0 %16*4096+bB l 1 %64*64+bB l 2 %64=r.toNat:=by omega
  have g2:¬(bB l 0/32==6&&cnt l 1)=true:=by simp;omega
  have g3:(bB l 0/16==14&&cnt l 1&&cnt l 2)=true:=by simp[c1,c2];omega
  unfold uT;grind[gT]
 ·have d:65536<=r/\r<=1114111:=by omega
  have e:Lib.encodeRune r=[(240+r/262144).toNat.toUInt8,(128+r/4096 %64).toNat.toUInt8,(128+r/64 %64).toNat.toUInt8,(128+r %64).toNat.toUInt8]:=by unfold Lib.encodeRune;rw[Lib.encodeRuneZ_four d.1 d.2];rfl
  rw[e];generalize hl:[(240+r/262144).toNat.toUInt8,(128+r/4096 %64).toNat.toUInt8,(128+r/64 %64).toNat.toUInt8,(128+r %64).toNat.toUInt8]++t=l;have b0:bB l 0=(240+r/262144).toNat:=by rw[<-hl,iN _ _ _ (by simp)];exact SS _ (by omega) (by omega)
  have b1:bB l 1=(128+r/4096 %64).toNat:=by rw[<-hl,iN _ _ _ (by simp)];exact SS _ (by omega) (by omega)
  have b2:bB l 2=(128+r/64 %64).toNat:=by rw[<-hl,iN _ _ _ (by simp)];exact SS _ (by omega) (by omega)
  have b3:bB l 3=(128+r %64).toNat:=by rw[<-hl,iN _ _ _ (by simp)];exact SS _ (by omega) (by omega)
  have c1:=(jo l 1).2 ⟨by rw[<-hl];simp,by omega,by omega⟩;have c2:=(jo l 2).2 ⟨by rw[<-hl];simp,by omega,by omega⟩;have c3:=(jo l 3).2 ⟨by rw[<-hl];simp,by omega,by omega⟩;have hv:bB l 0 %8*262144+bB l 1 %64*4096+bB l 2 %64*64+bB l 3 %64=r.toNat:=by omega
  have g2:¬(bB l 0/32==6&&cnt l 1)=true:=by simp;omega
  have g3:¬(bB l 0/16==14&&cnt l 1&&cnt l 2)=true:=by simp;omega
  have g4:(bB l 0/8==30&&cnt l 1&&cnt l 2&&cnt l 3)=true:=by simp[c1,c2,c3];omega
  unfold uT;rw[if_neg (by omega),if_neg g2,if_neg g3,if_pos g4,hv,if_pos];·rfl
  ·simp only[qL,decide_eq_true_eq,gT];omega
theorem Ow  r   R  :enc (r::R)=Lib.encodeRune r++enc R:=by simp[enc]
theorem xC  r   t  :Lib.encodeRune r++t≠[]:=by intro e;have:=(Lib.runeCells_le r).1;rw[Lib.runeCells_length]at this;have h:=congrArg List.length e;simp only[bm,iA]at h;omega
theorem L8  R  (h:∀r∈R,Good r):aD (enc R)=R:=by
 induction R with
 |nil=>simp[enc,ld]
 |cons r R ih=>
  have hr:=h r (by simp);have hd:=TM r hr.1 (enc R);have h0:0<=r:=by rcases hr.1 with a|a<;>omega
  rw[Ow,iH (xC r _),hd,List.drop_left,ih (fun x hx=>h x (by simp[hx]))];have e:fj ((r.toNat:Nat):Int)=r:=by rw[Int.toNat_of_nonneg h0];exact hr.2
  rw[e]
theorem Yw  l  :Sc ((uT l).1:Int):=by grind[mD,Sc,uT,bB,cnt,gT]
theorem Hw  r  (h:Sc r):Good (fj r):=by grind[Good,Sc,fj]
theorem wA  l  :∀r∈aD l,Good r:=by
 generalize hn:l.length=n;induction n using Nat.strongRecOn generalizing l with
 |_ n ih=>
  by_cases h:l=[];·subst h;rw[ld];simp
  ·rw[iH h];have hp:=pQ l;have hl:=l6.2 h;intro r hr;rcases km.1 hr with rfl|hr;·exact Hw _ (Yw l)
   ·exact ih (l.drop (uT l).2).length (by rw[dq];omega) _ rfl r hr
def eZ(r:Int):Bool:=decide (r≠10/\lW r=0)
theorem pY  r  :eZ r=true↔r≠10/\lW r=0:=by simp[eZ]
theorem fJ  r  :eZ r=false↔¬(r≠10/\lW r=0):=by grind[pY,eZ]
theorem fR{α:Type}  p  (l:List α)  k  (hk:k<=l.length) (h:∀j (hj:j<l.length),j<k->p l[j]=true) (he:∀hj,p l[k]=false):l.takeWhile p=l.take k:=by
 induction l generalizing k with
 |nil=>simp
 |cons a l ih=>
  cases k with
  |zero=>simp_all
  |succ k=>have h0:=h 0 (by simp) (by omega);simp at h0;simp only[List.takeWhile_cons,h0,if_true,List.take_succ_cons];rw[ih k (by grind) (fun j hj vn=>by grind) (fun hj=>by grind)]
def xm(R:List Int):List Int:=R.takeWhile eZ
theorem ZI  R  :(xm R).length<=R.length:=(List.takeWhile_sublist _).length_le
def fm(R:List Int):Int:=match R with|[]=>32|r::_=>if eZ r=true then 32 else r
def od(R:List Int):Nat:=match R with|[]=>0|r::_=>if eZ r=true then 0 else 1
def dH(R:List Int):List Int:=xm (R.drop (od R))
def iq(R:List Int):Nat:=match R with|[]=>0|r::_=>if r=10 then 1 else od R+(dH R).length
def fE(R:List Int):List UInt8:=match R with|[]=>[]|r::_=>if r=10 then[10]else enc (fm R::(dH R).take 4)
def fF(R:List Int):Int:=match R with|[]=>0|r::_=>if r=10 then 0 else lW (fm R)
theorem fD{R}(h:R≠[]):1<=iq R:=by
 match R,h with
 |r::t,_=>
  simp only[iq];split;·omega
  ·by_cases hm:eZ r=true;all_goals simp_all[od,dH,xm]
theorem Ix  R  :iq R<=R.length:=by
 match R with
 |[]=>simp[iq]
 |r::t=>grind[iq,ZI,od,dH]
def yr:Nat->List Int->List (List UInt8×Int)
 |0,_=>[]
 |_+1,[]=>[]
 |f+1,r::t=>(fE (r::t),fF (r::t))::yr f ((r::t).drop (iq (r::t)))
theorem pP:∀  f g   l,l.length<=f->l.length<=g->yr f l=yr g l
 |0,0,_,_,_=>rfl
 |0,g+1,l,h,_=>by have:l=[]:=ln.1 (by omega);subst this;rfl
 |f+1,0,l,_,h=>by have:l=[]:=ln.1 (by omega);subst this;rfl
 |f+1,g+1,[],_,_=>rfl
 |f+1,g+1,r::t,hf,hg=>by have hp:=fD (R:=r::t) (by simp);simp only[e_]at hf hg;simp only[yr];rw[pP f g _ (by grind) (by grind)]
def a_(R:List Int):List (List UInt8×Int):=yr R.length R
theorem jA:a_ []=[]:=rfl
theorem dN{R}(h:R≠[]):a_ R=(fE R,fF R)::a_ (R.drop (iq R)):=by
 cases R with
 |nil=>grind
 |cons r t=>grind[fD,yr,a_,pP]
theorem cE  R  :(a_ R).length<=R.length:=by
 generalize hn:R.length=n;induction n using Nat.strongRecOn generalizing R with
 |_ n ih=>
  by_cases h:R=[];·grind[jA]
  ·rw[dN h];have hp:=fD h;have hl:=l6.2 h;grind
theorem rX:lW 32=1:=by decide+kernel
theorem N_  R  :0<=fF R/\fF R<=2:=by
 match R with
 |[]=>simp[fF]
 |r::t=>
  simp only[fF];split;·omega
  ·exact _i _
theorem dO  R  :∀c∈a_ R,0<=c.2/\c.2<=2:=by
 generalize hn:R.length=n;induction n using Nat.strongRecOn generalizing R with
 |_ n ih=>
  by_cases h:R=[];·grind[jA]
  ·rw[dN h];have hp:=fD h;have hl:=l6.2 h;grind[N_,iq]
def ap(l:List (List UInt8×Int)):Int:=(l.map (·.2)).sum
theorem dY(l:List (List UInt8×Int))  k   h  :ap (l.take (k+1))=ap (l.take k)+(l[k]'h).2:=by unfold ap;rw[lk h,np,Rv];grind
theorem cJ(l:List (List UInt8×Int))(h:∀c∈l,0<=c.2/\c.2<=2)  k  :0<=ap (l.take k)/\ap (l.take k)<=2*k:=by
 induction k with
 |zero=>simp[ap]
 |succ k ih=>
  by_cases hk:k<l.length;·grind[dY]
  ·rw[gV (by omega)]at*;omega
theorem PI:eZ 10=false:=by rw[fJ];simp
theorem vu:eZ 32=false:=by rw[fJ,rX];simp
def eF(R:List Int):List Int:=match R with|[]=>[]|r::_=>if r=10 then[10]else fm R::(dH R).take 4
theorem TO:enc [10]=[10]:=by decide+kernel
theorem rc  R  :fE R=enc (eF R):=by
 match R with
 |[]=>rfl
 |r::t=>grind[fE,eF,TO]
def vH:Nat->List Int->List Int
 |0,_=>[]
 |_+1,[]=>[]
 |f+1,r::t=>eF (r::t)++vH f ((r::t).drop (iq (r::t)))
theorem qm:∀  f g   l,l.length<=f->l.length<=g->vH f l=vH g l
 |0,0,_,_,_=>rfl
 |0,g+1,l,h,_=>by have:l=[]:=ln.1 (by omega);subst this;rfl
 |f+1,0,l,_,h=>by have:l=[]:=ln.1 (by omega);subst this;rfl
 |f+1,g+1,[],_,_=>rfl
 |f+1,g+1,r::t,hf,hg=>by have hp:=fD (R:=r::t) (by simp);simp only[e_]at hf hg;simp only[vH];rw[qm f g _ (by grind) (by grind)]
def GV(R:List Int):List Int:=vH R.length R
theorem DY:GV []=[]:=rfl
theorem yM{R}(h:R≠[]):GV R=eF R++GV (R.drop (iq R)):=by
 cases R with
 |nil=>exact absurd rfl h
 |cons r t=>have hp:=fD (R:=r::t) (by simp);show vH (t.length+1) (r::t)=_;simp only[vH,GV];rw[qm t.length _ _ (by rw[dq,e_];omega) (ai _)]
theorem IF  a b  :enc (a++b)=enc a++enc b:=by simp[enc]
def aJ(l:List (List UInt8×Int)):List UInt8:=l.flatMap (·.1)
theorem GH  R  :aJ (a_ R)=enc (GV R):=by
 generalize hn:R.length=n;induction n using Nat.strongRecOn generalizing R with
 |_ n ih=>
  by_cases h:R=[];·subst h;rw[jA,DY];rfl
  ·have hp:=fD h;have hl:=l6.2 h;have e:=ih (R.drop (iq R)).length (by grind) _ rfl;rw[dN h,yM h,IF,<-e,<-rc];rfl
def zE(X:List Int):Prop:=∀x,X.head?=some x->eZ x=false
theorem Jd  M X  (hM:∀m∈M,eZ m=true) (hX:zE X):xm (M++X)=M:=by
 unfold xm;rw[List.takeWhile_append_of_pos (fun a ha=>hM a ha)];cases X with
 |nil=>simp
 |cons x X=>have:=hX x rfl;simp[this]
theorem Vc  L  :∀m∈xm L,eZ m=true:=by
 unfold xm;induction L with
 |nil=>simp
 |cons a L ih=>
  intro m hm;by_cases ha:eZ a=true;·rw[List.takeWhile_cons,if_pos ha]at hm;grind
  simp_all
theorem Ci  r   t  :eZ (fm (r::t))=false:=by grind[fm,vu]
theorem Kg{R}(h:R≠[])  X  :zE (eF R++X):=by
 match R,h with
 |r::t,_=>intro x hx;grind[eF,PI,Ci]
theorem Ke{r}{t}(h:r≠10):fm (r::t)≠10:=by grind[fm]
theorem Oe{R}(h:R≠[])  X  (hX:zE X):a_ (eF R++X)=(fE R,fF R)::a_ X:=by
 match R,h with
 |r::t,_=>
  by_cases dI:r=10;·grind[eF,fE,fF,a_,dN,iq]
  ·have e1:eF (r::t)=fm (r::t)::(dH (r::t)).take 4:=by simp only[eF,if_neg dI]
   have e2:fE (r::t)=enc (fm (r::t)::(dH (r::t)).take 4):=by simp only[fE,if_neg dI]
   have e3:fF (r::t)=lW (fm (r::t)):=by simp only[fF,if_neg dI]
   have hb:=Ci r t;have zcj:=Ke (t:=t) dI;have hM:∀m∈(dH (r::t)).take 4,eZ m=true:=fun m hm=>Vc _ m (lm hm);have hM4:((dH (r::t)).take 4).length<=4:=by rw[cX];omega
   rw[e1,e2,e3];generalize fm (r::t)=B at*;generalize(dH (r::t)).take 4=M at*;have jF:¬eZ B=true:=by rw[hb];simp
   rw[oK,dN (by simp)];have o1:od (B::(M++X))=1:=by simp only[od,if_neg jF]
   have o2:fm (B::(M++X))=B:=by simp only[fm,if_neg jF]
   have o3:dH (B::(M++X))=M:=by unfold dH;rw[o1];exact Jd M X hM hX
   have o4:iq (B::(M++X))=1+M.length:=by simp only[iq,if_neg zcj,o1,o3]
   have o5:fE (B::(M++X))=enc (B::M):=by simp only[fE,if_neg zcj,o2,o3];rw[gV hM4]
   grind[fF,lW]
theorem uZ:Good 32:=⟨.inl (by omega),rfl⟩
theorem zbW:Good 10:=⟨.inl (by omega),rfl⟩
theorem Cj  R  (h:∀r∈R,Good r):∀r∈eF R,Good r:=by
 match R with
 |[]=>grind[eF]
 |r::t=>
  intro x hx;simp only[eF]at hx;split at hx;·grind
  ·rcases km.1 hx with rfl|hx;·grind[fm,uZ]
   ·have h1:=lm hx;unfold dH xm at h1;have h2:=(List.takeWhile_sublist _).subset h1;grind
theorem ot  R  :(eF R).length<=5:=by
 match R with
 |[]=>simp[eF]
 |r::t=>grind[eF]
theorem DX  R  :(GV R).length<=5*R.length:=by
 generalize hn:R.length=n;induction n using Nat.strongRecOn generalizing R with
 |_ n ih=>by_cases h:R=[];all_goals grind[DY,fD,Ix,iq,ot,yM]
theorem oC  s  :(aJ (a_ (aD s))).length<=20*s.length:=by have a:=zX (GV (aD s));have b:=DX (aD s);have c:=bK s;rw[GH];omega
theorem sE(l:List (List UInt8×Int))  k   h  :aJ (l.take (k+1))=aJ (l.take k)++(l[k]'h).1:=by unfold aJ;rw[lk h,List.flatMap_append];simp
theorem fK  l   k  :(aJ (l.take k)).length<=(aJ l).length:=by unfold aJ;have e:=(gU k l).symm;grind
def tx(l:List (List UInt8×Int))(n:Nat):List UInt8:=(l[n]?.map (·.1)).getD []
theorem wQ{l}{n}(h:n<l.length):tx l n=(l[n]).1:=by simp[tx,h]
theorem Bh  l   a n  :tx (l.drop a) n=tx l (a+n):=by grind[tx]
theorem i_  a b  :ap (a++b)=ap a+ap b:=by grind[ap]
theorem dF  c   b  :ap (c::b)=c.2+ap b:=by simp[ap]
theorem gR  c   b  :aJ (c::b)=c.1++aJ b:=by simp[aJ]
theorem iE  a b  :aJ (a++b)=aJ a++aJ b:=by simp[aJ]
def dy:List (List UInt8×Int)->Int->Nat
 |[],_=>0
 |c::t,w=>if c.1=[10]\/w<c.2 then 0 else dy t (w-c.2)+1
theorem ka:∀  l   w,dy l w<=l.length
 |[],_=>ai _
 |c::t,w=>by
  simp only[dy];split;·simp
  ·have:=ka t (w-c.2);grind
def Fit(l:List (List UInt8×Int))(w:Int)(k:Nat):Prop:=∀j,j<k->tx l j≠[10]/\ap (l.take (j+1))<=w
theorem fitN_stop:∀  l   w   k,k<=l.length->Fit l w k->(k<l.length->tx l k=[10]\/w<ap (l.take (k+1)))->dy l w=k
 |[],w,k,hk,_,_=>by grind[dy]
 |c::t,w,0,_,_,he=>by grind[tx,dF,ap,dy]
 |c::t,w,k+1,hk,hf,he=>by
  have h0:=hf 0 (by omega);simp only[tx,List.take_succ_cons,List.take_zero,dF,RK,Option.map_some,Rx,show ap []=0 from rfl,Ff]at h0;have hn:¬(c.1=[10]\/w<c.2):=by rintro(h|h);exact h0.1 h;omega
  simp only[dy,if_neg hn];rw[fitN_stop t (w-c.2) k (by grind) (fun j hj=>by have:=hf (j+1) (by omega);grind[dF,tx]) (fun h=>by grind[dF,tx])]
theorem kQ:∀  l   w,(∀c∈l,0<=c.2/\c.2<=2)->Fit l w (dy l w)/\(dy l w<l.length->tx l (dy l w)=[10]\/w<ap (l.take (dy l w+1)))
 |[],w,_=>⟨fun j hj=>by simp[dy]at hj,fun h=>by simp at h⟩
 |c::t,w,hb=>by
  by_cases h:c.1=[10]\/w<c.2;·simp only[dy,if_pos h];refine⟨fun j hj=>by omega,fun _=>?_⟩;grind[tx,ap]
  ·have ih:=kQ t (w-c.2) (fun x hx=>hb x (by simp[hx]));simp only[dy,if_neg h];have h':=not_or.1 h;refine⟨fun j hj=>?_,fun hl=>?_⟩;·cases j with
    |zero=>grind[tx,ap]
    |succ j=>have:=ih.1 j (by omega);grind[dF,tx]
   grind[dF,tx]
def dA(l:List (List UInt8×Int)):Nat->Int
 |0=>-1
 |n+1=>if tx l n=[32]then n else dA l n
theorem vA  l  :∀n,dA l n<n/\-1<=dA l n
 |0=>by simp[dA]
 |n+1=>by have:=vA l n;grind[dA]
structure zfq where
 n:Nat
 d:Nat
 e:Int
def aU(r:List (List UInt8×Int))(w:Int):zfq:=
 if dy r w=r.length then⟨dy r w,0,3⟩
 else if tx r (dy r w)=[10]then⟨dy r w,1,2⟩
 else if dy r w=0 then⟨1,0,1⟩
 else if tx r (dy r w)=[32]then⟨dy r w,1,0⟩
 else if 0<=dA r (dy r w)then⟨(dA r (dy r w)).toNat,1,0⟩
 else⟨dy r w,0,1⟩
theorem yt  r   w  :(aU r w).n+(aU r w).d<=r.length:=by have h:=ka r w;have hb:=vA r (dy r w);grind[aU]
theorem F9  r   w  :(aU r w).e=3\/1<=(aU r w).n+(aU r w).d:=by grind[aU]
structure Ln where
 T:List UInt8
 W:Int
 F:Nat
 N:Nat
 E:Int
def c_(l:List (List UInt8×Int))(w:Int)(a:Nat):Ln:=
 let c:=aU (l.drop a) w
 let r:=(l.drop a).take c.n
 if w<ap r then⟨List.replicate w.toNat 32,w,a,1,c.e⟩else⟨aJ r,ap r,a,r.length,c.e⟩
def qV(l:List (List UInt8×Int))(w:Int)(a:Nat):Nat:=a+(aU (l.drop a) w).n+(aU (l.drop a) w).d
theorem Az  l   w   a  (h:a<=l.length):qV l w a<=l.length:=by have:=yt (l.drop a) w;grind[qV]
theorem ZF  l   w   a  :(c_ l w a).E=(aU (l.drop a) w).e:=by grind[c_]
theorem nxt_lt  l   w   a  (h:(c_ l w a).E≠3):a<qV l w a:=by grind[ZF,F9,qV]
def jG:Nat->List (List UInt8×Int)->Int->Nat->List Ln
 |0,_,_,_=>[]
 |f+1,l,w,a=>if(c_ l w a).E=3 then[c_ l w a]else c_ l w a::jG f l w (qV l w a)
theorem oE:∀  f g   l   w   a,a<=l.length->l.length<f+a->l.length<g+a->jG f l w a=jG g l w a
 |0,_,_,_,_,_,h,_=>by omega
 |_+1,0,_,_,_,_,_,h=>by omega
 |f+1,g+1,l,w,a,ha,hf,hg=>by
  simp only[jG];split;·rfl
  ·rename_i he;have:=nxt_lt l w a he;rw[oE f g l w (qV l w a) (Az l w a ha) (by omega) (by omega)]
def dE(l:List (List UInt8×Int))(w:Int)(a:Nat):List Ln:=jG (l.length+1-a) l w a
theorem lD{l}{w}{a}(ha:a<=l.length)(h:(c_ l w a).E=3):dE l w a=[c_ l w a]:=by unfold dE;rw[show l.length+1-a=(l.length-a)+1 by omega];grind[jG]
theorem mT{l}{w}{a}(ha:a<=l.length)(h:(c_ l w a).E≠3):dE l w a=c_ l w a::dE l w (qV l w a):=by have h1:=nxt_lt l w a h;have h2:=Az l w a ha;unfold dE;rw[show l.length+1-a=(l.length-a)+1 by omega];grind[jG,oE,qV]
theorem fe  l   w   a  (ha:a<=l.length):1<=(dE l w a).length/\(dE l w a).length<=l.length+1-a:=by
 generalize hn:l.length-a=n;induction n using Nat.strongRecOn generalizing a with
 |_ n ih=>grind[c_,lD,nxt_lt,Az,mT,qV]
def bC(l:List (List UInt8×Int))(w:Int):List Ln:=if w<1 then[]else dE l w 0
def cG(w:World):Prop:=∀i,i<26->w.cell? (az 10 (i*3))=some (Iq (dx i).1)/\w.cell? (az 10 (i*3+1))=some (Iq (dx i).2.1)/\w.cell? (az 10 (i*3+2))=some (Iq (dx i).2.2)
theorem oV(r:Int)(w:World)(ht:cG w):
 Cw 216 #[Iq r] w fun e w'=>e=Rw (Iq (lW r))/\w'=w:=by
 have HT:=qH<|ht;clear ht;by_cases dI:r=10;·subst dI;rw[VV];go_enter func216,ntmps216;go_wp2;go_ret;simp_all
 ·have pT:(r==10)=false:=by simp[dI]
  have H10:Hid (r≠10):=dI;clear dI;go_enter func216,ntmps216;go_wp2;go_loop[3,4] (fun a b=>∃lo hi:Nat,lo<=hi/\hi<=26/\a=Iq lo/\b=Iq hi/\Hid (zB r lo hi)) (fun a b=>(intOf b-intOf a).toNat);case atStart=>exact⟨0,26,by omega,by omega,rfl,rfl,half_start r⟩
  case round=>
   obtain⟨lo,hi,hle,h26,rfl,rfl,hh⟩:=hrel;by_cases hlt:lo<hi
   ·have aN:(lo:Int)<(hi:Int):=by omega
    obtain⟨ff,hm⟩:∃ff:Nat,ff=(lo+hi)/2:=⟨_,rfl⟩;have zcQ:((lo:Int)+(hi:Int))/2=(ff:Int):=by omega
    have Uw:ff<26:=by omega
    have zpZ:lo<=ff:=by omega
    have zpY:ff<hi:=by omega
    clear hm;obtain⟨c0,c1,c2⟩:=HT ff Uw;obtain⟨a,b,c,hs⟩:∃a b c,dx ff=(a,b,c):=⟨_,_,_,rfl⟩;rw[hs]at c0 c1 c2;have HS:=qH<|hs;clear hs;have TT:r<a->Hid (zB r lo ff):=fun h=>KX hh Uw (by rw[HS.out];exact h);have TU:b<r->Hid (zB r (ff+1) hi):=fun h=>OQ hh Uw (by rw[HS.out];exact h);have fin3:Hid (a<=r->r<=b->lW r=c):=fun h k=>by have:=Rg r _ (Hx Uw) (by rw[HS.out];exact h) (by rw[HS.out];exact k);rw[HS.out]at this;exact this
    by_cases ha:r<a
    ·have h1:=TT ha;clear TT TU fin3 hh;go_wp2;go_round;case rel=>grind
     case measure=>simp[intOf];omega
    ·by_cases hb:b<r
     ·have h2:=TU hb;clear TT TU fin3 hh;go_wp2;go_round;case rel=>grind
      case measure=>simp[intOf];omega
     ·have h3:=qH<|fin3 (by omega) (by omega);clear TT TU fin3 hh;go_wp2;go_ret;rw[h3.out];simp_all
   ·have aN:¬(lo:Int)<(hi:Int):=by omega
    have h3:=qH<|half_end hh (by omega) H10;clear hh;go_wp2;go_ret;rw[h3.out];simp_all
theorem xD(a:Option Addr)(cap:Nat)(w:World):
 Cw 215 #[.slice a 0 cap] w fun e w'=>e=Rw (.string ⟨#[]⟩)/\Bt w w':=by
 have OY:=Cq (l:=[]) (show w.ownsRow w.heap.size 5 1 (.slice none 0 0) 0 (Lib.byteCells [])from gF w w.heap.size 5 1);go_enter func215,ntmps215;go_wp2;go_loop[3,8] (fun v i=>v=.slice none 0 0/\i=Iq 0) (fun _ _=>0);case atStart=>grind
 case round=>obtain⟨rfl,rfl⟩:=hrel;go_wp2;go_ret;exact⟨rfl,aj _ _⟩
theorem sq  zs   v   w  (h:FN w v zs) (bY:zs.length<=17592186044416):
 Cw 215 #[v] w fun e w'=>e=Rw (.string ⟨(enc zs).toArray⟩)/\Bt w w':=by
 obtain⟨a,cap,rfl,rfl|⟨b,off,rfl,hb,hc⟩⟩:=h;·exact xD a cap w
 ·exact z_ zs b off cap w hb hc bY
theorem nG{w}{B n}{v}{zs}(h:w.ownsRow B 3 1 v n (zs.map (Value.int .i64))):FN w v zs:=by
 have hl:zs.length=n:=by have:=h.1;simpa using this
 rcases h.2 with⟨rfl,rfl⟩|⟨g,cap,ik,rfl,_,hg,_⟩;·have hz:=ln.1 hl;subst hz;exact⟨none,0,rfl,.inl rfl⟩
 ·refine⟨some (az g 0),cap,by rw[hl],.inr ⟨g,0,rfl,(aM.1 hg).1,fun j hj=>?_⟩⟩;have:=h.cells (g:=g) rfl j (Iq (zs[j]?.getD 0)) (by simp[hj]);have e:((az g 0):Addr).add j=(az g (0+j)):=by unfold Addr.add;split<;>simp_all
  grind
theorem Bc(a b:List UInt8):(⟨a.toArray⟩:ByteArray)++(⟨b.toArray⟩:ByteArray)=⟨(a++b).toArray⟩:=by apply nh;simp
def xy(c:List UInt8×Int):Prop:=∃X,(∀r∈X,Good r)/\X≠[]/\zE X/\enc X=c.1/\∀Y,zE Y->a_ (X++Y)=c::a_ Y
theorem Qi:zE []:=fun x hx=>by grind
theorem Qh{X}(h:X≠[])(hX:zE X)  Y  :zE (X++Y):=by
 match X,h with
 |x::t,_=>intro y hy;exact hX y (by grind)
theorem Co  R  (hg:∀r∈R,Good r):∀c∈a_ R,xy c:=by
 generalize hn:R.length=n;induction n using Nat.strongRecOn generalizing R with
 |_ n ih=>
  by_cases h:R=[];·grind[jA]
  ·have hp:=fD h;have hl:=l6.2 h;rw[dN h];intro c hc;rcases km.1 hc with rfl|hc
   ·have bZ:eF R≠[]:=by
     match R,h with
     |r::t,_=>grind[eF]
    exact⟨eF R,Cj R hg,bZ,by simpa using Kg h [],(rc R).symm,fun Y hY=>Oe h Y hY⟩
   grind
theorem DZ:∀  L,(∀c∈L,xy c)->∃X,(∀r∈X,Good r)/\zE X/\enc X=aJ L/\a_ X=L
 |[],_=>⟨[],by simp,Qi,rfl,rfl⟩
 |c::L,h=>by obtain⟨Y,hYg,hYm,hYe,hYc⟩:=DZ L (fun x hx=>h x (by simp[hx]));obtain⟨X,hXg,hX0,hXm,hXe,St⟩:=h c (by simp);grind[Qh,IF,gR]
theorem rJ  L  (h:∀c∈L,xy c):a_ (aD (aJ L))=L:=by obtain⟨X,hg,_,he,hc⟩:=DZ L h;grind[L8]
theorem Ay  r  (hg:Good r) (hm:eZ r=false) (dI:r≠10):xy (enc [r],lW r):=by
 refine⟨[r],by simpa using hg,by simp,fun x hx=>by grind,rfl,fun Y hY=>?_⟩;have MK:¬eZ r=true:=by rw[hm];simp
 show a_ (r::Y)=_;rw[dN (by simp)];have o1:od (r::Y)=1:=by simp only[od,if_neg MK]
 have o2:fm (r::Y)=r:=by simp only[fm,if_neg MK]
 have o3:dH (r::Y)=[]:=by unfold dH;rw[o1];exact Jd [] Y (by simp) hY
 simp_all[iq,fE,enc,fF,lW]
theorem Kz:enc [32]=[32]:=by decide+kernel
theorem Re:lW 8230=1:=by decide+kernel
theorem Ox:enc [8230]=[226,128,166]:=by decide+kernel
theorem KT:Good 8230:=⟨.inl (by omega),rfl⟩
theorem nO:xy ([32],1):=by grind[Ay,uZ,vu,Kz,rX]
theorem Qj:xy ([226,128,166],1):=by grind[Ay,KT,fJ,Re,Ox]
def one(l:List (List UInt8×Int)):List (List UInt8×Int):=l.map fun c=>if c.1=[10]then([32],1)else c
theorem o_  l  :(one l).length=l.length:=by simp[one]
theorem Vi{l}(h:∀c∈l,xy c):∀c∈one l,xy c:=by intro c hc;obtain⟨d,hd,rfl⟩:=l_.1 hc;grind[nO]
theorem Ji  l  :∀c∈one l,c.1≠[10]:=by intro c hc;obtain⟨d,hd,rfl⟩:=l_.1 hc;grind
theorem lB  R  :∀c∈a_ R,c.1.length<=20:=by
 generalize hn:R.length=n;induction n using Nat.strongRecOn generalizing R with
 |_ n ih=>
  by_cases h:R=[];·grind[jA]
  ·have hp:=fD h;have hl:=l6.2 h;grind[dN,fE,rc,zX,eF,ot,iq]
theorem kW:∀  l,(∀c∈l,c.1.length<=20)->(aJ l).length<=20*l.length
 |[],_=>by simp[aJ]
 |c::l,h=>by have a:=kW l (fun x hx=>h x (by simp[hx]));grind[gR]
theorem yO{l}(h:∀c∈l,c.1.length<=20):∀c∈one l,c.1.length<=20:=by intro c hc;obtain⟨d,hd,rfl⟩:=l_.1 hc;grind
theorem vK{l}(h:∀c∈l,0<=c.2/\c.2<=2):∀c∈one l,0<=c.2/\c.2<=2:=by intro c hc;obtain⟨d,hd,rfl⟩:=l_.1 hc;grind
theorem tR  l  (h:∀c∈l,0<=c.2/\c.2<=2)  k  :ap (l.take k)<=ap l:=by
 have e:ap l=ap (l.take k)+ap (l.drop k):=by rw[<-i_,gU]
 have:=cJ (l.drop k) (fun c hc=>h c (ku hc)) (l.drop k).length;grind
theorem TV  l   W  (h:∀c∈l,0<=c.2/\c.2<=2) (dI:∀c∈l,c.1≠[10]) (hW:0<=W):dy l W=l.length↔ap l<=W:=by
 have sp:=kQ l W h;have hle:=ka l W;constructor;·intro e;cases hl:l.length with
  |zero=>have:=ln.1 hl;subst this;exact hW
  |succ n=>have:=(sp.1 n (by omega)).2;grind
 ·intro e;by_cases hlt:dy l W<l.length
  ·rcases sp.2 hlt with h2|h2;·grind[wQ]
   ·have:=tR l h (dy l W+1);omega
  ·omega
theorem Bf(l:List (List UInt8×Int))(h:∀c∈l,0<=c.2/\c.2<=2){j k}(vn:j<=k):ap (l.take j)<=ap (l.take k):=by
 induction k with
 |zero=>grind
 |succ k ih=>
  by_cases e:j=k+1;·grind
  ·have:=ih (by omega);by_cases hk:k<l.length;·grind[dY]
   ·rw[gV (show l.length<=k+1 by omega)];rw[gV (show l.length<=k by omega)]at this;omega
theorem OE(r:List (List UInt8×Int))  w  (h:∀c∈r,0<=c.2/\c.2<=2) (hw:1<=w):ap (r.take (dy r w))<=w:=by
 have sp:=(kQ r w h).1;cases hf:dy r w with
 |zero=>show(0:Int)<=w;omega
 |succ n=>exact(sp n (by omega)).2
theorem Q6(r:List (List UInt8×Int))(h:∀c∈r,0<=c.2/\c.2<=2):ap (r.take 1)<=2:=by have:=(cJ r h 1).2;omega
theorem Dx(w:World)  zs   cs   cap  (h:cs=(zs.map (Value.int .i64)).toArray):FN (w.alloc (.cells cs 3)) (Sq w.heap.size zs.length cap) zs:=by subst h;refine⟨_,cap,rfl,.inr ⟨w.heap.size,0,rfl,by simp,fun j hj=>?_⟩⟩;simp_all
theorem ze(w:World):
 Cw 198 #[] w fun e w'=>∃v,e=Rw v/\FN w' v (mL iL)/\Bt w w':=by go_enter func198,ntmps198;go_wp2;go_ret;exact⟨_,rfl,Dx w (mL iL) _ 26 rfl,(aj _ _).alloc (ai _) _⟩
theorem Mu(w:World):
 Cw 199 #[] w fun e w'=>∃v,e=Rw v/\FN w' v (mL jT)/\Bt w w':=by go_enter func199,ntmps199;go_wp2;go_ret;exact⟨_,rfl,Dx w (mL jT) _ 28 rfl,(aj _ _).alloc (ai _) _⟩
theorem Dw(r:Int)(l:List (Int×Int))(hl:l.length<=1000)(b off cap:Nat)(w:World)(hc:∀j,j<(mL l).length->w.cell? (az b (off+j))=some (Iq ((mL l)[j]?.getD 0))):
 Cw 197 #[Iq r,.slice (some (az b off)) (mL l).length cap] w fun e w'=>e=Rw (.bool (Px r l))/\w'=w:=by
 have HC:=qH<|hc;clear hc;have hfl:=sj l;have FG:=qH<|hfl;rw[hfl];clear hfl;go_enter func197,ntmps197;go_wp2;go_loop[5] (fun i=>∃k:Nat,k<=l.length/\i=Iq (2*k:Nat)/\Hid (∀j,j<k->¬((l.getD j (0,0)).1<=r/\r<=(l.getD j (0,0)).2))) (fun i=>2*l.length-(intOf i).toNat);case atStart=>exact⟨0,aZ _,rfl,fun j h=>by omega⟩
 case round=>
  obtain⟨k,hk,rfl,SL⟩:=hrel;by_cases hlt:k<l.length
  ·have aN:(2*(k:Int))+1<2*(l.length:Int):=by omega
   obtain⟨p,q,hp⟩:∃p q,l.getD k (0,0)=(p,q):=⟨_,_,rfl⟩;have f:=TW l k;rw[hp]at f;have c0:w.cell? (az b (off+2*k))=some (Iq p):=by rw[HC (2*k) (by rw[FG.out];omega),f.1]
   have c1:w.cell? (az b (off+(2*k+1)))=some (Iq q):=by rw[HC (2*k+1) (by rw[FG.out];omega),f.2]
   have HP:=qH<|hp;have hmem:(p,q)∈l:=by rw[<-hp,JM,eR hlt];exact lX hlt
   have HM:=qH<|hmem;clear f hp hmem;by_cases h1:p<=r
   ·by_cases h2:r<=q;·have e:=qH<|(lC r l).2 ⟨_,HM,h1,h2⟩;go_wp2;go_ret;rw[e.out];simp_all
    ·go_wp2;go_round;case rel=>
      refine⟨k+1,by omega,by go_num,fun j hj=>?_⟩;by_cases ej:j=k;·subst ej;rw[HP.out];omega
      ·exact SL j (by omega)
     case measure=>simp[intOf];omega
   ·go_wp2;go_round;case rel=>
     refine⟨k+1,by omega,by go_num,fun j hj=>?_⟩;by_cases ej:j=k;·subst ej;rw[HP.out];omega
     ·exact SL j (by omega)
    case measure=>simp[intOf];omega
  ·have aN:¬(2*(k:Int))+1<2*(l.length:Int):=by omega
   have e:Hid (Px r l=false):=by show _=_;rw[Bool.eq_false_iff];intro h;obtain⟨p,hp,a⟩:=(lC r l).1 h;obtain⟨j,hj,rfl⟩:=sY.1 hp;have:=SL j (by omega);rw[JM,eR hj]at this;exact this a
   go_wp2;go_ret;rw[e.out];simp_all
theorem oZ  r   l  (hl:l.length<=1000) (hl0:0<l.length)  v   w  (h:FN w v (mL l)):
 Cw 197 #[Iq r,v] w fun e w'=>e=Rw (.bool (Px r l))/\w'=w:=by
 obtain⟨a,cap,rfl,hh⟩:=h;have bZ:mL l≠[]:=fun e=>by grind[sj]
 grind[Dw]
theorem pf(r:Int)(w:World):
 Cw 165 #[Iq r] w fun e w'=>e=Rw (Iq (lW r))/\Bt w w':=by
 unfold lW;by_cases hz:Px r iL=true;·rw[if_pos hz];have HZ:=qH<|hz;clear hz;go_enter func165,ntmps165;go_wp2_with fail;refine(ze _).mono ?_;rintro e w1 ⟨v1,rfl,I1,b1⟩;go_wp2_with fail;refine(oZ r iL (by decide) (by decide) _ _ I1).mono ?_;rintro e w2 ⟨rfl,rfl⟩;rw[HZ.out];go_wp2;go_ret;simp_all
 ·have HZ:Hid (Px r iL=false):=by show _=_;simpa using hz
  rw[if_neg hz];clear hz;by_cases hw:Px r jT=true;focus rw[if_pos hw];have HW:=qH<|hw
  rotate_left;focus rw[if_neg hw];have HW:Hid (Px r jT=false):=by show _=_;simpa using hw
  rotate_left;all_goals clear hw;go_enter func165,ntmps165;go_wp2_with fail;refine(ze _).mono ?_;rintro e w1 ⟨v1,rfl,I1,b1⟩;go_wp2_with fail;refine(oZ r iL (by decide) (by decide) _ _ I1).mono ?_;rintro e w2 ⟨rfl,rfl⟩;rw[HZ.out];clear I1;go_wp2_with fail;refine(Mu _).mono ?_;rintro e w3 ⟨v3,rfl,I3,b3⟩;go_wp2_with fail;refine(oZ r jT (by decide) (by decide) _ _ I3).mono ?_;rintro e w4 ⟨rfl,rfl⟩;rw[HW.out];go_wp2;go_ret;exact⟨rfl,b1.trans (b3.mono b1.size)⟩
