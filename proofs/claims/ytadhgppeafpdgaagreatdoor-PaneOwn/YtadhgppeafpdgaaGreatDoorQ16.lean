import Derived.Shelf.Utf8.AppendRunePlain
import Derived.Test.YtadhgppeafpdgaaGreatDoorProg
import Derived.Test.YtadhgppeafpdgaaGreatDoorQ02
import Derived.Test.YtadhgppeafpdgaaGreatDoorQ13
import Derived.Lib.BufferRead
set_option linter.all false
set_option maxRecDepth 100000
set_option maxHeartbeats 16000000
namespace Go.Proofs.YtadhgppeafpdgaaGreatDoor
open Go.RowKit Go.Proofs.Tryz
section
open Go.Shelf
def Cm:Go.Shelf.Ren:=⟨fun|242=>143|278=>192|n=>n,fun|37=>106|21=>21|51=>158|4=>4|5=>5|46=>126|n=>n,fun|n=>n⟩
theorem Uh:Go.Proofs.Lays.n242 prog Cm:={
 mixed:=by kernel_rfl
 f242:=func143.trans (congrArg some (by kernel_rfl))
 f278:=func192.trans (congrArg some (by kernel_rfl))
 t4:=underlying4
 a4:=isAgg4
 z4:=sizeOf4
 v4:=zeroValue4
 t5:=underlying5
 a5:=isAgg5
 z5:=sizeOf5
 v5:=zeroValue5
 t21:=underlying21
 a21:=isAgg21
 z21:=sizeOf21
 v21:=zeroValue21
 t37:=underlying106
 a37:=isAgg106
 z37:=sizeOf106
 v37:=zeroValue106
 t46:=underlying126
 a46:=isAgg126
 z46:=sizeOf126
 v46:=zeroValue126
 t51:=underlying158
 a51:=isAgg158
 z51:=sizeOf158
 v51:=zeroValue158}
theorem tI  B   v   n   xs   r  (ux:-2147483648<=r) (hr1:r<=2147483647)  w  (bC:w.ownsRow B 5 1 v n xs) (aO:n+4<=140737488355328) (hBw:B<=w.heap.size):
 Cw 143 #[v,.int .i32 r] w fun e w'=>∃v',e=Rw v'/\w'.ownsRow B 5 1 v' (n+(Lib.runeCells r).length) (xs++Lib.runeCells r)/\∃o,(w.alloc o).grownBy w' v.ownBlock:=Any.utf8_AppendRune_plain Uh (by kernel_rfl) B v n xs r ux hr1 w bC aO hBw
end
def enc(zs:List Int):List UInt8:=zs.flatMap Lib.encodeRune
theorem N5(zs:List Int)  k  (h:k<zs.length):enc (zs.take (k+1))=enc (zs.take k)++Lib.encodeRune (zs[k]?.getD 0):=by unfold enc;rw[ip h,Ra];simp[h]
theorem m4  r  :(Lib.encodeRune r).length<=4:=by have:=(Lib.runeCells_le r).2;rwa[Lib.runeCells_length]at this
theorem ud  zs  :(enc zs).length<=4*zs.length:=by
 induction zs with
 |nil=>simp[enc]
 |cons z zs ih=>grind[m4,enc]
theorem Vi(zs:List Int)  k  (h:k<=zs.length):(enc (zs.take k)).length<=4*k:=by grind[ud]
theorem p_  n  :Lib.encodeRune (pz n)=Lib.encodeRune n:=by unfold Lib.encodeRune;rw[zc]
theorem Bi{w}{B n}{v}{l}(h:w.ownsRow B 5 1 v n (Lib.byteCells l)):
 (convert 106 9 v).run prog w=.ok (.string ⟨l.toArray⟩) w:=by
 obtain⟨hl,h2⟩:=h;rw[Lib.byteCells_length]at hl;rcases h2 with⟨rfl,rfl⟩|⟨g,cap,cM,rfl,_,hg,_,_,_,Wz⟩;·have:=jy.1 (by omega);subst this;exact Lib.run_convert_nil_bytes w 106 9 5 0 underlying106 underlying5 underlying9
 ·have e:n=l.length:=by omega
  subst e;exact run_convert_bytes_back w 106 9 5 (aq g 0) cap l underlying106 underlying5 underlying9 (Lib.bytes_of_row hg (by grind))
theorem P6{w:World}{B}{v}{l}{r}(h:w.ownsRow B 5 1 v (l.length+(Lib.runeCells r).length) (Lib.byteCells l++Lib.runeCells r)):
 w.ownsRow B 5 1 v (l++Lib.encodeRune r).length (Lib.byteCells (l++Lib.encodeRune r)):=by rw[Lib.byteCells_append,Lib.byteCells_encodeRune,aI,<-Lib.runeCells_length];exact h
theorem zi(zs:List Int)(b off cap:Nat)(w:World)(hb:b<w.heap.size)(hc:∀j,j<zs.length->w.cell? (aq b (off+j))=some (Iq (zs[j]?.getD 0)))(aO:zs.length<=17592186044416):
 Cw 85 #[.slice (some (aq b off)) zs.length cap] w fun e w'=>e=Rw (.string ⟨(enc zs).toArray⟩)/\Bt w w':=by
 have HC:=qH<|hc;clear hc;go_enter func85,ntmps85;go_wp2;go_loopw[3,8] (fun v i wr=>∃k:Nat,k<=zs.length/\i=Iq k/\wr.ownsRow w.heap.size 5 1 v (enc (zs.take k)).length (Lib.byteCells (enc (zs.take k)))/\Bt w wr) (fun _ i _=>zs.length-(intOf i).toNat);case atStart=>exact⟨0,bm _,rfl,by simpa[enc,Lib.byteCells]using jb _ _ _ _,ag _ _⟩
 case round=>
  obtain⟨k,hk,rfl,bC,L8⟩:=hrel;have hte:=Vi zs k hk;by_cases hlt:k<zs.length
  ·obtain⟨x,hx⟩:=af (zs[k]?.getD 0);have Yn:wr.cell? (aq b (off+k))=some (Iq x):=by rw[<-hx];exact(L8.cell (p:=(aq b (off+k))) hb).trans (HC k hlt)
   have hr:=Qp x;have eV:=L8.size;have HX:Hid (enc (zs.take (k+1))=enc (zs.take k)++Lib.encodeRune (pz x)):=by show _=_;rw[N5 zs k hlt,hx,p_]
   clear hx;have aR:(k:Int)<(zs.length:Int):=by omega
   go_wp2_with(first|(go_at_call 144;refine(F6 _ _).mono ?_;rintro e w' ⟨rfl,rfl⟩)|(go_at_call 143;refine(tI w.heap.size _ _ _ _ (by omega) (by omega) _ bC (by omega) eV).mono ?_));rintro e W1 ⟨v',rfl,bS,o,hg⟩;have hrow:=fun q hq=>(bC.lt q hq).1;have hb1:=(L8.alloc eV o).grown hg (by simp;omega) hrow;clear Yn bC hg hrow L8;go_wp2;go_roundw;case rel=>refine⟨k+1,by omega,by go_num,?_,hb1⟩;rw[HX.out];exact P6 bS
   case measure=>simp[intOf];omega
  ·have ek:k=zs.length:=by omega
   have aR:¬(k:Int)<(zs.length:Int):=by omega
   rw[ek,l6]at bC;have Z9:=Bi bC;clear ek;go_wp2;go_ret;simp_all
def Sc(r:Int):Prop:=(0<=r/\r<55296)\/(57343<r/\r<=1114111)
def Good(r:Int):Prop:=Sc r/\fF r=r
theorem gJ  l t   k  (h:k<l.length):aQ (l++t) k=(l.getD k 0).toNat:=by grind[aQ]
theorem Sb(x:Int)(h0:0<=x)(h1:x<256):(x.toNat.toUInt8).toNat=x.toNat:=by simp;omega
theorem Hg  r  (h:Sc r)  t  :ub (Lib.encodeRune r++t)=(r.toNat,(Lib.encodeRune r).length):=by
 unfold Sc at h;by_cases a:0<=r/\r<=127
 ·have e:Lib.encodeRune r=[r.toNat.toUInt8]:=by unfold Lib.encodeRune;rw[Lib.encodeRuneZ_one a.1 a.2];rfl
  rw[e];have b0:aQ ([r.toNat.toUInt8]++t) 0=r.toNat:=by rw[gJ _ _ _ (by simp)];exact Sb r (by omega) (by omega)
  rw[yZ _ (by rw[b0];omega),b0];rfl
 by_cases b:128<=r/\r<=2047
 ·have e:Lib.encodeRune r=[(192+r/64).toNat.toUInt8,(128+r %64).toNat.toUInt8]:=by unfold Lib.encodeRune;rw[Lib.encodeRuneZ_two b.1 b.2];rfl
  rw[e];generalize hl:[(192+r/64).toNat.toUInt8,(128+r %64).toNat.toUInt8]++t=l;have b0:aQ l 0=(192+r/64).toNat:=by rw[<-hl,gJ _ _ _ (by simp)];exact Sb _ (by omega) (by omega)
  have b1:aQ l 1=(128+r %64).toNat:=by rw[<-hl,gJ _ _ _ (by simp)];exact Sb _ (by omega) (by omega)
  have c1:=(iw l 1).2 ⟨by rw[<-hl];simp,by omega,by omega⟩;unfold ub;rw[if_neg (by omega),if_pos (by rw[c1,b0];simp;omega),if_pos (by omega),b0,b1];simp;omega
 by_cases c:(2048<=r/\r<55296)\/(57343<r/\r<=65535)
 ·have e:Lib.encodeRune r=[(224+r/4096).toNat.toUInt8,(128+r/64 %64).toNat.toUInt8,(128+r %64).toNat.toUInt8]:=by unfold Lib.encodeRune;rw[Lib.encodeRuneZ_three c];rfl
  rw[e];generalize hl:[(224+r/4096).toNat.toUInt8,(128+r/64 %64).toNat.toUInt8,(128+r %64).toNat.toUInt8]++t=l;have b0:aQ l 0=(224+r/4096).toNat:=by rw[<-hl,gJ _ _ _ (by simp)];exact Sb _ (by omega) (by omega)
  have b1:aQ l 1=(128+r/64 %64).toNat:=by rw[<-hl,gJ _ _ _ (by simp)];exact Sb _ (by omega) (by omega)
  have b2:aQ l 2=(128+r %64).toNat:=by rw[<-hl,gJ _ _ _ (by simp)];exact Sb _ (by omega) (by omega)
  have c1:=(iw l 1).2 ⟨by rw[<-hl];simp,by omega,by omega⟩;have c2:=(iw l 2).2 ⟨by rw[<-hl];simp,by omega,by omega⟩;have hv:aQ l 0 %16*4096+aQ l 1 %64*64+aQ l 2 %64=r.toNat:=by omega
  have g2:¬(aQ l 0/32==6&&cnt l 1)=true:=by simp;omega
  have g3:(aQ l 0/16==14&&cnt l 1&&cnt l 2)=true:=by simp[c1,c2];omega
  unfold ub;grind[fK]
 ·have d:65536<=r/\r<=1114111:=by omega
  have e:Lib.encodeRune r=[(240+r/262144).toNat.toUInt8,(128+r/4096 %64).toNat.toUInt8,(128+r/64 %64).toNat.toUInt8,(128+r %64).toNat.toUInt8]:=by unfold Lib.encodeRune;rw[Lib.encodeRuneZ_four d.1 d.2];rfl
  rw[e];generalize hl:[(240+r/262144).toNat.toUInt8,(128+r/4096 %64).toNat.toUInt8,(128+r/64 %64).toNat.toUInt8,(128+r %64).toNat.toUInt8]++t=l;have b0:aQ l 0=(240+r/262144).toNat:=by rw[<-hl,gJ _ _ _ (by simp)];exact Sb _ (by omega) (by omega)
  have b1:aQ l 1=(128+r/4096 %64).toNat:=by rw[<-hl,gJ _ _ _ (by simp)];exact Sb _ (by omega) (by omega)
  have b2:aQ l 2=(128+r/64 %64).toNat:=by rw[<-hl,gJ _ _ _ (by simp)];exact Sb _ (by omega) (by omega)
  have b3:aQ l 3=(128+r %64).toNat:=by rw[<-hl,gJ _ _ _ (by simp)];exact Sb _ (by omega) (by omega)
  have c1:=(iw l 1).2 ⟨by rw[<-hl];simp,by omega,by omega⟩;have c2:=(iw l 2).2 ⟨by rw[<-hl];simp,by omega,by omega⟩;have c3:=(iw l 3).2 ⟨by rw[<-hl];simp,by omega,by omega⟩;have hv:aQ l 0 %8*262144+aQ l 1 %64*4096+aQ l 2 %64*64+aQ l 3 %64=r.toNat:=by omega
  have g2:¬(aQ l 0/32==6&&cnt l 1)=true:=by simp;omega
  have g3:¬(aQ l 0/16==14&&cnt l 1&&cnt l 2)=true:=by simp;omega
  have g4:(aQ l 0/8==30&&cnt l 1&&cnt l 2&&cnt l 3)=true:=by simp[c1,c2,c3];omega
  unfold ub;rw[if_neg (by omega),if_neg g2,if_neg g3,if_pos g4,hv,if_pos];·rfl
  ·simp only[D_,decide_eq_true_eq,fK];omega
theorem Bq  r   R  :enc (r::R)=Lib.encodeRune r++enc R:=by simp[enc]
theorem m5  r   t  :Lib.encodeRune r++t≠[]:=by intro e;have:=(Lib.runeCells_le r).1;rw[Lib.runeCells_length]at this;have h:=congrArg List.length e;simp only[aI,fh]at h;omega
theorem xZ  R  (h:∀r∈R,Good r):ap (enc R)=R:=by
 induction R with
 |nil=>simp[enc,mJ]
 |cons r R ih=>
  have hr:=h r (by simp);have hd:=Hg r hr.1 (enc R);have h0:0<=r:=by rcases hr.1 with a|a<;>omega
  rw[Bq,iZ (m5 r _),hd,List.drop_left,ih (fun x hx=>h x (by simp[hx]))];have e:fF ((r.toNat:Nat):Int)=r:=by rw[Int.toNat_of_nonneg h0];exact hr.2
  rw[e]
theorem XO  l  :Sc ((ub l).1:Int):=by grind[pW,Sc,ub,aQ,cnt,fK]
theorem F_  r  (h:Sc r):Good (fF r):=by grind[Good,Sc,fF]
theorem vn  l  :∀r∈ap l,Good r:=by
 generalize hn:l.length=n;induction n using Nat.strongRecOn generalizing l with
 |_ n ih=>
  by_cases h:l=[];·subst h;rw[mJ];simp
  ·rw[iZ h];have hp:=me l;have hl:=io.2 h;intro r hr;rcases ja.1 hr with rfl|hr;·exact F_ _ (XO l)
   ·exact ih (l.drop (ub l).2).length (by rw[dL];omega) _ rfl r hr
def gh(r:Int):Bool:=decide (r≠10/\kY r=0)
theorem oQ  r  :gh r=true↔r≠10/\kY r=0:=by simp[gh]
theorem uC  r  :gh r=false↔¬(r≠10/\kY r=0):=by grind[oQ,gh]
theorem lT{α:Type}  p  (l:List α)  k  (hk:k<=l.length) (h:∀j (hj:j<l.length),j<k->p l[j]=true) (he:∀hj,p l[k]=false):l.takeWhile p=l.take k:=by
 induction l generalizing k with
 |nil=>simp
 |cons a l ih=>
  cases k with
  |zero=>simp_all
  |succ k=>have h0:=h 0 (by simp) (by omega);simp at h0;simp only[Rb,h0,if_true,List.take_succ_cons];rw[ih k (by grind) (fun j hj xG=>by grind) (fun hj=>by grind)]
def Er(R:List Int):List Int:=R.takeWhile gh
theorem Y3  R  :(Er R).length<=R.length:=(Rc _).length_le
def dO(R:List Int):Int:=match R with|[]=>32|r::_=>if gh r=true then 32 else r
def wg(R:List Int):Nat:=match R with|[]=>0|r::_=>if gh r=true then 0 else 1
def dk(R:List Int):List Int:=Er (R.drop (wg R))
def jh(R:List Int):Nat:=match R with|[]=>0|r::_=>if r=10 then 1 else wg R+(dk R).length
def eY(R:List Int):List UInt8:=match R with|[]=>[]|r::_=>if r=10 then[10]else enc (dO R::(dk R).take 4)
def fR(R:List Int):Int:=match R with|[]=>0|r::_=>if r=10 then 0 else kY (dO R)
theorem dZ{R}(h:R≠[]):1<=jh R:=by
 match R,h with
 |r::t,_=>
  simp only[jh];split;·omega
  ·by_cases hm:gh r=true;all_goals simp_all[wg,dk,Er]
theorem G8  R  :jh R<=R.length:=by
 match R with
 |[]=>simp[jh]
 |r::t=>grind[jh,Y3,wg,dk]
def xt:Nat->List Int->List (List UInt8×Int)
 |0,_=>[]
 |_+1,[]=>[]
 |f+1,r::t=>(eY (r::t),fR (r::t))::xt f ((r::t).drop (jh (r::t)))
theorem oC:∀  f g   l,l.length<=f->l.length<=g->xt f l=xt g l
 |0,0,_,_,_=>rfl
 |0,g+1,l,h,_=>by have:l=[]:=jy.1 (by omega);subst this;rfl
 |f+1,0,l,_,h=>by have:l=[]:=jy.1 (by omega);subst this;rfl
 |f+1,g+1,[],_,_=>rfl
 |f+1,g+1,r::t,hf,hg=>by have hp:=dZ (R:=r::t) (by simp);simp only[cP]at hf hg;simp only[xt];rw[oC f g _ (by grind) (by grind)]
def bi(R:List Int):List (List UInt8×Int):=xt R.length R
theorem gS:bi []=[]:=rfl
theorem eI{R}(h:R≠[]):bi R=(eY R,fR R)::bi (R.drop (jh R)):=by
 cases R with
 |nil=>grind
 |cons r t=>grind[dZ,xt,bi,oC]
theorem cu  R  :(bi R).length<=R.length:=by
 generalize hn:R.length=n;induction n using Nat.strongRecOn generalizing R with
 |_ n ih=>
  by_cases h:R=[];·grind[gS]
  ·rw[eI h];have hp:=dZ h;have hl:=io.2 h;grind
theorem LH:kY 32=1:=by decide+kernel
theorem Nw  R  :0<=fR R/\fR R<=2:=by
 match R with
 |[]=>simp[fR]
 |r::t=>
  simp only[fR];split;·omega
  ·exact Gq _
theorem gB  R  :∀c∈bi R,0<=c.2/\c.2<=2:=by
 generalize hn:R.length=n;induction n using Nat.strongRecOn generalizing R with
 |_ n ih=>
  by_cases h:R=[];·grind[gS]
  ·rw[eI h];have hp:=dZ h;have hl:=io.2 h;grind[Nw,jh]
def aj(l:List (List UInt8×Int)):Int:=(l.map (·.2)).sum
theorem f_(l:List (List UInt8×Int))  k   h  :aj (l.take (k+1))=aj (l.take k)+(l[k]'h).2:=by unfold aj;rw[ip h,pK,Q5];grind
theorem dp(l:List (List UInt8×Int))(h:∀c∈l,0<=c.2/\c.2<=2)  k  :0<=aj (l.take k)/\aj (l.take k)<=2*k:=by
 induction k with
 |zero=>simp[aj]
 |succ k ih=>
  by_cases hk:k<l.length;·grind[f_]
  ·rw[im (by omega)]at*;omega
theorem Fj:gh 32=false:=by rw[uC,LH];simp
def d_(R:List Int):List Int:=match R with|[]=>[]|r::_=>if r=10 then[10]else dO R::(dk R).take 4
theorem SY:enc [10]=[10]:=by decide+kernel
theorem ma  R  :eY R=enc (d_ R):=by
 match R with
 |[]=>rfl
 |r::t=>grind[eY,d_,SY]
def uR:Nat->List Int->List Int
 |0,_=>[]
 |_+1,[]=>[]
 |f+1,r::t=>d_ (r::t)++uR f ((r::t).drop (jh (r::t)))
theorem oV:∀  f g   l,l.length<=f->l.length<=g->uR f l=uR g l
 |0,0,_,_,_=>rfl
 |0,g+1,l,h,_=>by have:l=[]:=jy.1 (by omega);subst this;rfl
 |f+1,0,l,_,h=>by have:l=[]:=jy.1 (by omega);subst this;rfl
 |f+1,g+1,[],_,_=>rfl
 |f+1,g+1,r::t,hf,hg=>by have hp:=dZ (R:=r::t) (by simp);simp only[cP]at hf hg;simp only[uR];rw[oV f g _ (by grind) (by grind)]
def FD(R:List Int):List Int:=uR R.length R
theorem CQ:FD []=[]:=rfl
theorem xO{R}(h:R≠[]):FD R=d_ R++FD (R.drop (jh R)):=by
 cases R with
 |nil=>exact absurd rfl h
 |cons r t=>have hp:=dZ (R:=r::t) (by simp);show uR (t.length+1) (r::t)=_;simp only[uR,FD];rw[oV t.length _ _ (by rw[dL,cP];omega) (ae _)]
theorem SX  a b  :enc (a++b)=enc a++enc b:=by simp[enc]
def aK(l:List (List UInt8×Int)):List UInt8:=l.flatMap (·.1)
theorem Fp  R  :aK (bi R)=enc (FD R):=by
 generalize hn:R.length=n;induction n using Nat.strongRecOn generalizing R with
 |_ n ih=>
  by_cases h:R=[];·subst h;rw[gS,CQ];rfl
  ·have hp:=dZ h;have hl:=io.2 h;have e:=ih (R.drop (jh R)).length (by grind) _ rfl;rw[eI h,xO h,SX,<-e,<-ma];rfl
def zaw(X:List Int):Prop:=∀x,X.head?=some x->gh x=false
theorem Uq  M X  (hM:∀m∈M,gh m=true) (hX:zaw X):Er (M++X)=M:=by
 unfold Er;rw[List.takeWhile_append_of_pos (fun a ha=>hM a ha)];cases X with
 |nil=>simp
 |cons x X=>have:=hX x rfl;simp[this]
theorem Ur  L  :∀m∈Er L,gh m=true:=by
 unfold Er;induction L with
 |nil=>simp
 |cons a L ih=>
  intro m hm;by_cases ha:gh a=true;·rw[Rb,if_pos ha]at hm;grind
  simp_all
theorem Nu  r   t  :gh (dO (r::t))=false:=by grind[dO,Fj]
theorem JM{r}{t}(h:r≠10):dO (r::t)≠10:=by grind[dO]
theorem NK{R}(h:R≠[])  X  (hX:zaw X):bi (d_ R++X)=(eY R,fR R)::bi X:=by
 match R,h with
 |r::t,_=>
  by_cases fM:r=10;·grind[d_,eY,fR,bi,eI,jh]
  ·have e1:d_ (r::t)=dO (r::t)::(dk (r::t)).take 4:=by simp only[d_,if_neg fM]
   have e2:eY (r::t)=enc (dO (r::t)::(dk (r::t)).take 4):=by simp only[eY,if_neg fM]
   have e3:fR (r::t)=kY (dO (r::t)):=by simp only[fR,if_neg fM]
   have hb:=Nu r t;have zbo:=JM (t:=t) fM;have hM:∀m∈(dk (r::t)).take 4,gh m=true:=fun m hm=>Ur _ m (nt hm);have hM4:((dk (r::t)).take 4).length<=4:=by rw[bU];omega
   rw[e1,e2,e3];generalize dO (r::t)=B at*;generalize(dk (r::t)).take 4=M at*;have sr:¬gh B=true:=by rw[hb];simp
   rw[ny,eI (by simp)];have o1:wg (B::(M++X))=1:=by simp only[wg,if_neg sr]
   have o2:dO (B::(M++X))=B:=by simp only[dO,if_neg sr]
   have o3:dk (B::(M++X))=M:=by unfold dk;rw[o1];exact Uq M X hM hX
   have o4:jh (B::(M++X))=1+M.length:=by simp only[jh,if_neg zbo,o1,o3]
   have o5:eY (B::(M++X))=enc (B::M):=by simp only[eY,if_neg zbo,o2,o3];rw[im hM4]
   grind[fR,kY]
theorem EW:Good 32:=⟨.inl (by omega),rfl⟩
theorem A7  R  (h:∀r∈R,Good r):∀r∈d_ R,Good r:=by
 match R with
 |[]=>grind[d_]
 |r::t=>
  intro x hx;simp only[d_]at hx;split at hx;·grind
  ·rcases ja.1 hx with rfl|hx;·grind[dO,EW]
   ·have h1:=nt hx;unfold dk Er at h1;have h2:=(Rc _).subset h1;grind
theorem jC  R  :(d_ R).length<=5:=by
 match R with
 |[]=>simp[d_]
 |r::t=>grind[d_]
theorem CM  R  :(FD R).length<=5*R.length:=by
 generalize hn:R.length=n;induction n using Nat.strongRecOn generalizing R with
 |_ n ih=>by_cases h:R=[];all_goals grind[CQ,dZ,G8,jh,jC,xO]
theorem m9  s  :(aK (bi (ap s))).length<=20*s.length:=by have a:=ud (FD (ap s));have b:=CM (ap s);have c:=bp s;rw[Fp];omega
theorem Cd(l:List (List UInt8×Int))  k   h  :aK (l.take (k+1))=aK (l.take k)++(l[k]'h).1:=by unfold aK;rw[ip h,Ra];simp
theorem iP  l   k  :(aK (l.take k)).length<=(aK l).length:=by unfold aK;have e:=(gy k l).symm;grind
def tx(l:List (List UInt8×Int))(n:Nat):List UInt8:=(l[n]?.map (·.1)).getD []
theorem IL{l}{n}(h:n<l.length):tx l n=(l[n]).1:=by simp[tx,h]
theorem DW  a b  :aj (a++b)=aj a+aj b:=by grind[aj]
theorem eP  c   b  :aj (c::b)=c.2+aj b:=by simp[aj]
theorem ro  c   b  :aK (c::b)=c.1++aK b:=by simp[aK]
theorem uI  a b  :aK (a++b)=aK a++aK b:=by simp[aK]
def dI:List (List UInt8×Int)->Int->Nat
 |[],_=>0
 |c::t,w=>if c.1=[10]\/w<c.2 then 0 else dI t (w-c.2)+1
theorem mf:∀  l   w,dI l w<=l.length
 |[],_=>ae _
 |c::t,w=>by
  simp only[dI];split;·simp
  ·have:=mf t (w-c.2);grind
def Fit(l:List (List UInt8×Int))(w:Int)(k:Nat):Prop:=∀j,j<k->tx l j≠[10]/\aj (l.take (j+1))<=w
theorem fitN_stop:∀  l   w   k,k<=l.length->Fit l w k->(k<l.length->tx l k=[10]\/w<aj (l.take (k+1)))->dI l w=k
 |[],w,k,hk,_,_=>by grind[dI]
 |c::t,w,0,_,_,he=>by grind[tx,eP,aj,dI]
 |c::t,w,k+1,hk,hf,he=>by
  have h0:=hf 0 (by omega);simp only[tx,List.take_succ_cons,List.take_zero,eP,Re,Option.map_some,Q6,show aj []=0 from rfl,Int.add_zero]at h0;have hn:¬(c.1=[10]\/w<c.2):=by rintro(h|h);exact h0.1 h;omega
  simp only[dI,if_neg hn];rw[fitN_stop t (w-c.2) k (by grind) (fun j hj=>by have:=hf (j+1) (by omega);grind[eP,tx]) (fun h=>by grind[eP,tx])]
theorem xz:∀  l   w,(∀c∈l,0<=c.2/\c.2<=2)->Fit l w (dI l w)/\(dI l w<l.length->tx l (dI l w)=[10]\/w<aj (l.take (dI l w+1)))
 |[],w,_=>⟨fun j hj=>by simp[dI]at hj,fun h=>by simp at h⟩
 |c::t,w,hb=>by
  by_cases h:c.1=[10]\/w<c.2;·simp only[dI,if_pos h];refine⟨fun j hj=>by omega,fun _=>?_⟩;grind[tx,aj]
  ·have ih:=xz t (w-c.2) (fun x hx=>hb x (by simp[hx]));simp only[dI,if_neg h];have h':=not_or.1 h;refine⟨fun j hj=>?_,fun hl=>?_⟩;·cases j with
    |zero=>grind[tx,aj]
    |succ j=>have:=ih.1 j (by omega);grind[eP,tx]
   grind[eP,tx]
def fe(l:List (List UInt8×Int)):Nat->Int
 |0=>-1
 |n+1=>if tx l n=[32]then n else fe l n
theorem uM  l  :∀n,fe l n<n/\-1<=fe l n
 |0=>by simp[fe]
 |n+1=>by have:=uM l n;grind[fe]
structure zei where
 n:Nat
 d:Nat
 e:Int
def aS(r:List (List UInt8×Int))(w:Int):zei:=
 if dI r w=r.length then⟨dI r w,0,3⟩
 else if tx r (dI r w)=[10]then⟨dI r w,1,2⟩
 else if dI r w=0 then⟨1,0,1⟩
 else if tx r (dI r w)=[32]then⟨dI r w,1,0⟩
 else if 0<=fe r (dI r w)then⟨(fe r (dI r w)).toNat,1,0⟩
 else⟨dI r w,0,1⟩
theorem xx  r   w  :(aS r w).n+(aS r w).d<=r.length:=by have h:=mf r w;have hb:=uM r (dI r w);grind[aS]
theorem ES  r   w  :(aS r w).e=3\/1<=(aS r w).n+(aS r w).d:=by grind[aS]
structure Ln where
 T:List UInt8
 W:Int
 F:Nat
 N:Nat
 E:Int
def fN(l:List (List UInt8×Int))(w:Int)(a:Nat):Ln:=
 let c:=aS (l.drop a) w
 let r:=(l.drop a).take c.n
 if w<aj r then⟨List.replicate w.toNat 32,w,a,1,c.e⟩else⟨aK r,aj r,a,r.length,c.e⟩
def Me(l:List (List UInt8×Int))(w:Int)(a:Nat):Nat:=a+(aS (l.drop a) w).n+(aS (l.drop a) w).d
theorem FE  l   w   a  (h:a<=l.length):Me l w a<=l.length:=by have:=xx (l.drop a) w;grind[Me]
theorem Y0  l   w   a  :(fN l w a).E=(aS (l.drop a) w).e:=by grind[fN]
theorem nxt_lt  l   w   a  (h:(fN l w a).E≠3):a<Me l w a:=by grind[Y0,ES,Me]
def kz:Nat->List (List UInt8×Int)->Int->Nat->List Ln
 |0,_,_,_=>[]
 |f+1,l,w,a=>if(fN l w a).E=3 then[fN l w a]else fN l w a::kz f l w (Me l w a)
theorem na:∀  f g   l   w   a,a<=l.length->l.length<f+a->l.length<g+a->kz f l w a=kz g l w a
 |0,_,_,_,_,_,h,_=>by omega
 |_+1,0,_,_,_,_,_,h=>by omega
 |f+1,g+1,l,w,a,ha,hf,hg=>by
  simp only[kz];split;·rfl
  ·rename_i he;have:=nxt_lt l w a he;rw[na f g l w (Me l w a) (FE l w a ha) (by omega) (by omega)]
def fD(l:List (List UInt8×Int))(w:Int)(a:Nat):List Ln:=kz (l.length+1-a) l w a
theorem nU{l}{w}{a}(ha:a<=l.length)(h:(fN l w a).E=3):fD l w a=[fN l w a]:=by unfold fD;rw[show l.length+1-a=(l.length-a)+1 by omega];grind[kz]
theorem ry{l}{w}{a}(ha:a<=l.length)(h:(fN l w a).E≠3):fD l w a=fN l w a::fD l w (Me l w a):=by have h1:=nxt_lt l w a h;have h2:=FE l w a ha;unfold fD;rw[show l.length+1-a=(l.length-a)+1 by omega];grind[kz,na,Me]
theorem gK  l   w   a  (ha:a<=l.length):1<=(fD l w a).length/\(fD l w a).length<=l.length+1-a:=by
 generalize hn:l.length-a=n;induction n using Nat.strongRecOn generalizing a with
 |_ n ih=>grind[fN,nU,nxt_lt,FE,ry,Me]
def bG(l:List (List UInt8×Int))(w:Int):List Ln:=if w<1 then[]else fD l w 0
def aL(w:World):Prop:=∀i,i<26->w.cell? (aq 10 (i*3))=some (Iq (cF i).1)/\w.cell? (aq 10 (i*3+1))=some (Iq (cF i).2.1)/\w.cell? (aq 10 (i*3+2))=some (Iq (cF i).2.2)
theorem ku(r:Int)(w:World)(ht:aL w):
 Cw 86 #[Iq r] w fun e w'=>e=Rw (Iq (kY r))/\w'=w:=by
 have HT:=qH<|ht;clear ht;by_cases fM:r=10;·subst fM;rw[Vt];go_enter func86,ntmps86;go_wp2;go_ret;simp_all
 ·have EX:(r==10)=false:=by simp[fM]
  have H10:Hid (r≠10):=fM;clear fM;go_enter func86,ntmps86;go_wp2;go_loop[3,4] (fun a b=>∃lo hi:Nat,lo<=hi/\hi<=26/\a=Iq lo/\b=Iq hi/\Hid (yE r lo hi)) (fun a b=>(intOf b-intOf a).toNat);case atStart=>exact⟨0,26,by omega,by omega,rfl,rfl,half_start r⟩
  case round=>
   obtain⟨lo,hi,qj,h26,rfl,rfl,hh⟩:=hrel;by_cases hlt:lo<hi
   ·have aR:(lo:Int)<(hi:Int):=by omega
    obtain⟨dM,hm⟩:∃dM:Nat,dM=(lo+hi)/2:=⟨_,rfl⟩;have zbR:((lo:Int)+(hi:Int))/2=(dM:Int):=by omega
    have TD:dM<26:=by omega
    have zoA:lo<=dM:=by omega
    have zoz:dM<hi:=by omega
    clear hm;obtain⟨c0,c1,c2⟩:=HT dM TD;obtain⟨a,b,c,hs⟩:∃a b c,cF dM=(a,b,c):=⟨_,_,_,rfl⟩;rw[hs]at c0 c1 c2;have HS:=qH<|hs;clear hs;have S7:r<a->Hid (yE r lo dM):=fun h=>Kq hh TD (by rw[HS.out];exact h);have S8:b<r->Hid (yE r (dM+1) hi):=fun h=>Oo hh TD (by rw[HS.out];exact h);have fin3:Hid (a<=r->r<=b->kY r=c):=fun h k=>by have:=QN r _ (Ga TD) (by rw[HS.out];exact h) (by rw[HS.out];exact k);rw[HS.out]at this;exact this
    by_cases ha:r<a
    ·have h1:=S7 ha;clear S7 S8 fin3 hh;go_wp2;go_round;case rel=>grind
     case measure=>simp[intOf];omega
    ·by_cases hb:b<r
     ·have h2:=S8 hb;clear S7 S8 fin3 hh;go_wp2;go_round;case rel=>grind
      case measure=>simp[intOf];omega
     ·have h3:=qH<|fin3 (by omega) (by omega);clear S7 S8 fin3 hh;go_wp2;go_ret;rw[h3.out];simp_all
   ·have aR:¬(lo:Int)<(hi:Int):=by omega
    have h3:=qH<|half_end hh (by omega) H10;clear hh;go_wp2;go_ret;rw[h3.out];simp_all
theorem wm(a:Option Addr)(cap:Nat)(w:World):
 Cw 85 #[.slice a 0 cap] w fun e w'=>e=Rw (.string ⟨#[]⟩)/\Bt w w':=by
 have Z9:=Bi (l:=[]) (show w.ownsRow w.heap.size 5 1 (.slice none 0 0) 0 (Lib.byteCells [])from jb w w.heap.size 5 1);go_enter func85,ntmps85;go_wp2;go_loop[3,8] (fun v i=>v=.slice none 0 0/\i=Iq 0) (fun _ _=>0);case atStart=>grind
 case round=>obtain⟨rfl,rfl⟩:=hrel;go_wp2;go_ret;exact⟨rfl,ag _ _⟩
theorem lq  zs   v   w  (h:nG w v zs) (aO:zs.length<=17592186044416):
 Cw 85 #[v] w fun e w'=>e=Rw (.string ⟨(enc zs).toArray⟩)/\Bt w w':=by
 obtain⟨a,cap,rfl,rfl|⟨b,off,rfl,hb,hc⟩⟩:=h;·exact wm a cap w
 ·exact zi zs b off cap w hb hc aO
theorem qq{w}{B n}{v}{zs}(h:w.ownsRow B 3 1 v n (zs.map (Value.int .i64))):nG w v zs:=by
 have hl:zs.length=n:=by have:=h.1;simpa using this
 rcases h.2 with⟨rfl,rfl⟩|⟨g,cap,cM,rfl,_,hg,_⟩;·have hz:=jy.1 hl;subst hz;exact⟨none,0,rfl,.inl rfl⟩
 ·refine⟨some (aq g 0),cap,by rw[hl],.inr ⟨g,0,rfl,(az.1 hg).1,fun j hj=>?_⟩⟩;have:=h.cells (g:=g) rfl j (Iq (zs[j]?.getD 0)) (by simp[hj]);have e:((aq g 0):Addr).add j=(aq g (0+j)):=by unfold Addr.add;split<;>simp_all
  grind
theorem Ve(a b:List UInt8):(⟨a.toArray⟩:ByteArray)++(⟨b.toArray⟩:ByteArray)=⟨(a++b).toArray⟩:=by apply ju;simp
def one(l:List (List UInt8×Int)):List (List UInt8×Int):=l.map fun c=>if c.1=[10]then([32],1)else c
theorem uV  l  :(one l).length=l.length:=by simp[one]
theorem UF  l  :∀c∈one l,c.1≠[10]:=by intro c hc;obtain⟨d,hd,rfl⟩:=lZ.1 hc;grind
theorem tU  R  :∀c∈bi R,c.1.length<=20:=by
 generalize hn:R.length=n;induction n using Nat.strongRecOn generalizing R with
 |_ n ih=>
  by_cases h:R=[];·grind[gS]
  ·have hp:=dZ h;have hl:=io.2 h;grind[eI,eY,ma,ud,d_,jC,jh]
theorem qr:∀  l,(∀c∈l,c.1.length<=20)->(aK l).length<=20*l.length
 |[],_=>by simp[aK]
 |c::l,h=>by have a:=qr l (fun x hx=>h x (by simp[hx]));grind[ro]
theorem K4{l}(h:∀c∈l,c.1.length<=20):∀c∈one l,c.1.length<=20:=by intro c hc;obtain⟨d,hd,rfl⟩:=lZ.1 hc;grind
theorem PK{l}(h:∀c∈l,0<=c.2/\c.2<=2):∀c∈one l,0<=c.2/\c.2<=2:=by intro c hc;obtain⟨d,hd,rfl⟩:=lZ.1 hc;grind
theorem sK  l  (h:∀c∈l,0<=c.2/\c.2<=2)  k  :aj (l.take k)<=aj l:=by
 have e:aj l=aj (l.take k)+aj (l.drop k):=by rw[<-DW,gy]
 have:=dp (l.drop k) (fun c hc=>h c (l8 hc)) (l.drop k).length;grind
theorem S9  l   W  (h:∀c∈l,0<=c.2/\c.2<=2) (fM:∀c∈l,c.1≠[10]) (hW:0<=W):dI l W=l.length↔aj l<=W:=by
 have sp:=xz l W h;have qj:=mf l W;constructor;·intro e;cases hl:l.length with
  |zero=>have:=jy.1 hl;subst this;exact hW
  |succ n=>have:=(sp.1 n (by omega)).2;grind
 ·intro e;by_cases hlt:dI l W<l.length
  ·rcases sp.2 hlt with h2|h2;·grind[IL]
   ·have:=sK l h (dI l W+1);omega
  ·omega
