import Derived.Shelf.Utf8.AppendRunePlain
import Derived.Test.YtbeiapdobffpiaaGreatDoorProg
import Derived.Test.YtbeiapdobffpiaaGreatDoorQ00
import Derived.Test.YtbeiapdobffpiaaGreatDoorQ06
import Derived.Lib.BufferRead
set_option linter.all false
set_option maxRecDepth 100000
set_option maxHeartbeats 16000000
namespace Go.Proofs.YtbeiapdobffpiaaGreatDoor
open Go.RowKit Go.Proofs.Tryz
section
open Go.Shelf
def zA:Go.Shelf.Ren:=⟨fun|242=>246|278=>259|n=>n,fun|37=>183|21=>21|51=>250|4=>4|5=>5|46=>166|n=>n,fun|n=>n⟩
theorem Pf:Go.Proofs.Lays.n242 prog zA:={
 mixed:=by kernel_rfl
 f242:=func246.trans (congrArg some (by kernel_rfl))
 f278:=func259.trans (congrArg some (by kernel_rfl))
 t4:=underlying4
 a4:=isAgg4
 z4:=sizeOf4
 v4:=zeroValue4
 t5:=underlying5
 a5:=isAgg5
 z5:=sizeOf5
 v5:=zeroValue5
 t21:=underlying21
 a21:=isAgg21
 z21:=sizeOf21
 v21:=zeroValue21
 t37:=underlying183
 a37:=isAgg183
 z37:=sizeOf183
 v37:=zeroValue183
 t46:=underlying166
 a46:=isAgg166
 z46:=sizeOf166
 v46:=zeroValue166
 t51:=underlying250
 a51:=isAgg250
 z51:=sizeOf250
 v51:=zeroValue250}
theorem rC  B   v   n   xs   r  (zh:-2147483648<=r) (hr1:r<=2147483647)  w  (bi:w.ownsRow B 5 1 v n xs) (bH:n+4<=140737488355328) (hBw:B<=w.heap.size):
 Cw 246 #[v,.int .i32 r] w fun e w'=>∃v',e=Rw v'/\w'.ownsRow B 5 1 v' (n+(Lib.runeCells r).length) (xs++Lib.runeCells r)/\∃o,(w.alloc o).grownBy w' v.ownBlock:=Any.utf8_AppendRune_plain Pf (by kernel_rfl) B v n xs r zh hr1 w bi bH hBw
end
def BQ(w:World)(v:Value)(zs:List Int):Prop:=
 ∃a al,v=.slice a zs.length al/\(zs=[]\/∃b off,a=some (az b off)/\b<w.heap.size/\∀j,j<zs.length->w.cell? (az b (off+j))=some (Iq (zs[j]?.getD 0)))
def enc(zs:List Int):List UInt8:=zs.flatMap Lib.encodeRune
theorem JK(zs:List Int)  k  (h:k<zs.length):enc (zs.take (k+1))=enc (zs.take k)++Lib.encodeRune (zs[k]?.getD 0):=by unfold enc;rw[l_ h,List.flatMap_append];simp[h]
theorem lR  r  :(Lib.encodeRune r).length<=4:=by have:=(Lib.runeCells_le r).2;rwa[Lib.runeCells_length]at this
theorem Cc  zs  :(enc zs).length<=4*zs.length:=by
 induction zs with
 |nil=>simp[enc]
 |cons z zs ih=>grind[lR,enc]
theorem PQ(zs:List Int)  k  (h:k<=zs.length):(enc (zs.take k)).length<=4*k:=by grind[Cc]
theorem oM  n  :Lib.encodeRune (og n)=Lib.encodeRune n:=by unfold Lib.encodeRune;rw[wA]
theorem yx{w}{B n}{v}{l}(h:w.ownsRow B 5 1 v n (Lib.byteCells l)):
 (convert 183 9 v).run prog w=.ok (.string ⟨l.toArray⟩) w:=by
 obtain⟨hl,h2⟩:=h;rw[Lib.byteCells_length]at hl;rcases h2 with⟨rfl,rfl⟩|⟨g,al,iT,rfl,_,hg,_,_,_,XZ⟩;·have:=ot.1 (by omega);subst this;exact Lib.run_convert_nil_bytes w 183 9 5 0 underlying183 underlying5 underlying9
 ·have e:n=l.length:=by omega
  subst e;exact run_convert_bytes_back w 183 9 5 (az g 0) al l underlying183 underlying5 underlying9 (Lib.bytes_of_row hg (by grind))
theorem Lb{w:World}{B}{v}{l}{r}(h:w.ownsRow B 5 1 v (l.length+(Lib.runeCells r).length) (Lib.byteCells l++Lib.runeCells r)):
 w.ownsRow B 5 1 v (l++Lib.encodeRune r).length (Lib.byteCells (l++Lib.encodeRune r)):=by rw[Lib.byteCells_append,Lib.byteCells_encodeRune,bf,<-Lib.runeCells_length];exact h
theorem wE(zs:List Int)(b off al:Nat)(w:World)(hb:b<w.heap.size)(hc:∀j,j<zs.length->w.cell? (az b (off+j))=some (Iq (zs[j]?.getD 0)))(bH:zs.length<=17592186044416):
 Cw 224 #[.slice (some (az b off)) zs.length al] w fun e w'=>e=Rw (.string ⟨(enc zs).toArray⟩)/\Bt w w':=by
 have HC:=qH<|hc;clear hc;go_enter func224,ntmps224;go_wp2;go_loopw[3,8] (fun v i wr=>∃k:Nat,k<=zs.length/\i=Iq k/\wr.ownsRow w.heap.size 5 1 v (enc (zs.take k)).length (Lib.byteCells (enc (zs.take k)))/\Bt w wr) (fun _ i _=>zs.length-(intOf i).toNat);case atStart=>exact⟨0,bc _,rfl,by simpa[enc,Lib.byteCells]using gM _ _ _ _,ag _ _⟩
 case round=>
  obtain⟨k,hk,rfl,bi,zb⟩:=hrel;have hte:=PQ zs k hk;by_cases hlt:k<zs.length
  ·obtain⟨x,hx⟩:=aj (zs[k]?.getD 0);have UR:wr.cell? (az b (off+k))=some (Iq x):=by rw[<-hx];exact(zb.cell (p:=(az b (off+k))) hb).trans (HC k hlt)
   have hr:=LA x;have fT:=zb.size;have HX:Hid (enc (zs.take (k+1))=enc (zs.take k)++Lib.encodeRune (og x)):=by show _=_;rw[JK zs k hlt,hx,oM]
   clear hx;have aK:(k:Int)<(zs.length:Int):=by omega
   go_wp2_with(first|(go_at_call 247;refine(DD _ _).mono ?_;rintro e w' ⟨rfl,rfl⟩)|(go_at_call 246;refine(rC w.heap.size _ _ _ _ (by omega) (by omega) _ bi (by omega) fT).mono ?_));rintro e W1 ⟨v',rfl,bK,o,hg⟩;have hrow:=fun q hq=>(bi.lt q hq).1;have hb1:=(zb.alloc fT o).grown hg (by simp;omega) hrow;clear UR bi hg hrow zb;go_wp2;go_roundw;case rel=>refine⟨k+1,by omega,by go_num,?_,hb1⟩;rw[HX.out];exact Lb bK
   case measure=>simp[intOf];omega
  ·have ek:k=zs.length:=by omega
   have aK:¬(k:Int)<(zs.length:Int):=by omega
   rw[ek,qj]at bi;have OC:=yx bi;clear ek;go_wp2;go_ret;simp_all
def gy(r:Int):Bool:=decide (r≠10/\oI r=0)
theorem nz  r  :gy r=true↔r≠10/\oI r=0:=by simp[gy]
theorem jQ  r  :gy r=false↔¬(r≠10/\oI r=0):=by grind[nz,gy]
theorem eV{α:Type}  p  (l:List α)  k  (hk:k<=l.length) (h:∀j (hj:j<l.length),j<k->p l[j]=true) (he:∀hj,p l[k]=false):l.takeWhile p=l.take k:=by
 induction l generalizing k with
 |nil=>simp
 |cons a l ih=>
  cases k with
  |zero=>simp_all
  |succ k=>have h0:=h 0 (by simp) (by omega);simp at h0;simp only[List.takeWhile_cons,h0,if_true,List.take_succ_cons];rw[ih k (by grind) (fun j hj tA=>by grind) (fun hj=>by grind)]
def zE(R:List Int):List Int:=R.takeWhile gy
theorem TK  R  :(zE R).length<=R.length:=(List.takeWhile_sublist _).length_le
def kz(R:List Int):Int:=match R with|[]=>32|r::_=>if gy r=true then 32 else r
def qv(R:List Int):Nat:=match R with|[]=>0|r::_=>if gy r=true then 0 else 1
def gu(R:List Int):List Int:=zE (R.drop (qv R))
def jr(R:List Int):Nat:=match R with|[]=>0|r::_=>if r=10 then 1 else qv R+(gu R).length
def gX(R:List Int):List UInt8:=match R with|[]=>[]|r::_=>if r=10 then[10]else enc (kz R::(gu R).take 4)
def gH(R:List Int):Int:=match R with|[]=>0|r::_=>if r=10 then 0 else oI (kz R)
theorem js{R}(h:R≠[]):1<=jr R:=by
 match R,h with
 |r::t,_=>
  simp only[jr];split;·omega
  ·by_cases hm:gy r=true;all_goals simp_all[qv,gu,zE]
theorem NZ  R  :jr R<=R.length:=by
 match R with
 |[]=>simp[jr]
 |r::t=>grind[jr,TK,qv,gu]
def uA:Nat->List Int->List (List UInt8×Int)
 |0,_=>[]
 |_+1,[]=>[]
 |f+1,r::t=>(gX (r::t),gH (r::t))::uA f ((r::t).drop (jr (r::t)))
theorem nh:∀  f g   l,l.length<=f->l.length<=g->uA f l=uA g l
 |0,0,_,_,_=>rfl
 |0,g+1,l,h,_=>by have:l=[]:=ot.1 (by omega);subst this;rfl
 |f+1,0,l,_,h=>by have:l=[]:=ot.1 (by omega);subst this;rfl
 |f+1,g+1,[],_,_=>rfl
 |f+1,g+1,r::t,hf,hg=>by have hp:=js (R:=r::t) (by simp);simp only[fB]at hf hg;simp only[uA];rw[nh f g _ (by grind) (by grind)]
def cL(R:List Int):List (List UInt8×Int):=uA R.length R
theorem kC:cL []=[]:=rfl
theorem gw{R}(h:R≠[]):cL R=(gX R,gH R)::cL (R.drop (jr R)):=by
 cases R with
 |nil=>grind
 |cons r t=>grind[js,uA,cL,nh]
theorem fM  R  :(cL R).length<=R.length:=by
 generalize hn:R.length=n;induction n using Nat.strongRecOn generalizing R with
 |_ n ih=>
  by_cases h:R=[];·grind[kC]
  ·rw[gw h];have hp:=js h;have hl:=ou.2 h;grind
theorem Hy:oI 32=1:=by decide+kernel
theorem Jq  R  :0<=gH R/\gH R<=2:=by
 match R with
 |[]=>simp[gH]
 |r::t=>
  simp only[gH];split;·omega
  ·exact Ua _
theorem jv  R  :∀c∈cL R,0<=c.2/\c.2<=2:=by
 generalize hn:R.length=n;induction n using Nat.strongRecOn generalizing R with
 |_ n ih=>
  by_cases h:R=[];·grind[kC]
  ·rw[gw h];have hp:=js h;have hl:=ou.2 h;grind[Jq,jr]
def aF(l:List (List UInt8×Int)):Int:=(l.map (·.2)).sum
theorem dS(l:List (List UInt8×Int))  k   h  :aF (l.take (k+1))=aF (l.take k)+(l[k]'h).2:=by unfold aF;rw[l_ h,li,Mo];grind
theorem dR(l:List (List UInt8×Int))(h:∀c∈l,0<=c.2/\c.2<=2)  k  :0<=aF (l.take k)/\aF (l.take k)<=2*k:=by
 induction k with
 |zero=>simp[aF]
 |succ k ih=>
  by_cases hk:k<l.length;·grind[dS]
  ·rw[gt (by omega)]at*;omega
def dC(w:World):Prop:=∀i,i<26->w.cell? (az 12 (i*3))=some (Iq (cU i).1)/\w.cell? (az 12 (i*3+1))=some (Iq (cU i).2.1)/\w.cell? (az 12 (i*3+2))=some (Iq (cU i).2.2)
theorem mq(r:Int)(w:World)(ht:dC w):
 Cw 225 #[Iq r] w fun e w'=>e=Rw (Iq (oI r))/\w'=w:=by
 have HT:=qH<|ht;clear ht;by_cases eq:r=10;·subst eq;rw[PY];go_enter func225,ntmps225;go_wp2;go_ret;simp_all
 ·have tL:(r==10)=false:=by simp[eq]
  have Vw:Hid (r≠10):=eq;clear eq;go_enter func225,ntmps225;go_wp2;go_loop[3,4] (fun a b=>∃lo hi:Nat,lo<=hi/\hi<=26/\a=Iq lo/\b=Iq hi/\Hid (vQ r lo hi)) (fun a b=>(intOf b-intOf a).toNat);case atStart=>exact⟨0,26,by omega,by omega,rfl,rfl,half_start r⟩
  case round=>
   obtain⟨lo,hi,hle,h26,rfl,rfl,hh⟩:=hrel;by_cases hlt:lo<hi
   ·have aK:(lo:Int)<(hi:Int):=by omega
    obtain⟨dZ,hm⟩:∃dZ:Nat,dZ=(lo+hi)/2:=⟨_,rfl⟩;have XK:((lo:Int)+(hi:Int))/2=(dZ:Int):=by omega
    have ON:dZ<26:=by omega
    have zjL:lo<=dZ:=by omega
    have zjK:dZ<hi:=by omega
    clear hm;obtain⟨c0,c1,c2⟩:=HT dZ ON;obtain⟨a,b,c,hs⟩:∃a b c,cU dZ=(a,b,c):=⟨_,_,_,rfl⟩;rw[hs]at c0 c1 c2;have HS:=qH<|hs;clear hs;have N':r<a->Hid (vQ r lo dZ):=fun h=>Ga hh ON (by rw[HS.out];exact h);have Oa:b<r->Hid (vQ r (dZ+1) hi):=fun h=>JY hh ON (by rw[HS.out];exact h);have fin3:Hid (a<=r->r<=b->oI r=c):=fun h k=>by have:=L6 r _ (DJ ON) (by rw[HS.out];exact h) (by rw[HS.out];exact k);rw[HS.out]at this;exact this
    by_cases ha:r<a
    ·have h1:=N' ha;clear N' Oa fin3 hh;go_wp2;go_round;case rel=>grind
     case measure=>simp[intOf];omega
    ·by_cases hb:b<r
     ·have h2:=Oa hb;clear N' Oa fin3 hh;go_wp2;go_round;case rel=>grind
      case measure=>simp[intOf];omega
     ·have h3:=qH<|fin3 (by omega) (by omega);clear N' Oa fin3 hh;go_wp2;go_ret;rw[h3.out];simp_all
   ·have aK:¬(lo:Int)<(hi:Int):=by omega
    have h3:=qH<|half_end hh (by omega) Vw;clear hh;go_wp2;go_ret;rw[h3.out];simp_all
theorem tJ(a:Option Addr)(al:Nat)(w:World):
 Cw 224 #[.slice a 0 al] w fun e w'=>e=Rw (.string ⟨#[]⟩)/\Bt w w':=by
 have OC:=yx (l:=[]) (show w.ownsRow w.heap.size 5 1 (.slice none 0 0) 0 (Lib.byteCells [])from gM w w.heap.size 5 1);go_enter func224,ntmps224;go_wp2;go_loop[3,8] (fun v i=>v=.slice none 0 0/\i=Iq 0) (fun _ _=>0);case atStart=>grind
 case round=>obtain⟨rfl,rfl⟩:=hrel;go_wp2;go_ret;exact⟨rfl,ag _ _⟩
theorem pO  zs   v   w  (h:BQ w v zs) (bH:zs.length<=17592186044416):
 Cw 224 #[v] w fun e w'=>e=Rw (.string ⟨(enc zs).toArray⟩)/\Bt w w':=by
 obtain⟨a,al,rfl,rfl|⟨b,off,rfl,hb,hc⟩⟩:=h;·exact tJ a al w
 ·exact wE zs b off al w hb hc bH
theorem lA{w}{B n}{v}{zs}(h:w.ownsRow B 3 1 v n (zs.map (Value.int .i64))):BQ w v zs:=by
 have hl:zs.length=n:=by have:=h.1;simpa using this
 rcases h.2 with⟨rfl,rfl⟩|⟨g,al,iT,rfl,_,hg,_⟩;·have hz:=ot.1 hl;subst hz;exact⟨none,0,rfl,.inl rfl⟩
 ·refine⟨some (az g 0),al,by rw[hl],.inr ⟨g,0,rfl,(aS.1 hg).1,fun j hj=>?_⟩⟩;have:=h.cells (g:=g) rfl j (Iq (zs[j]?.getD 0)) (by simp[hj]);have e:((az g 0):Addr).add j=(az g (0+j)):=by unfold Addr.add;split<;>simp_all
  grind
def oL(R:List Int):List Int:=match R with|[]=>[]|r::_=>if r=10 then[10]else kz R::(gu R).take 4
theorem N8:enc [10]=[10]:=by decide+kernel
theorem FN  R  :gX R=enc (oL R):=by
 match R with
 |[]=>rfl
 |r::t=>grind[gX,oL,N8]
def bJ(l:List (List UInt8×Int)):List UInt8:=l.flatMap (·.1)
theorem tH  R  :(oL R).length<=5:=by
 match R with
 |[]=>simp[oL]
 |r::t=>grind[oL]
theorem pT(l:List (List UInt8×Int))  k   h  :bJ (l.take (k+1))=bJ (l.take k)++(l[k]'h).1:=by unfold bJ;rw[l_ h,List.flatMap_append];simp
theorem kN  l   k  :(bJ (l.take k)).length<=(bJ l).length:=by unfold bJ;have e:=(gO k l).symm;grind
def tx(l:List (List UInt8×Int))(n:Nat):List UInt8:=(l[n]?.map (·.1)).getD []
theorem vk{l}{n}(h:n<l.length):tx l n=(l[n]).1:=by simp[tx,h]
theorem xC  l   a n  :tx (l.drop a) n=tx l (a+n):=by grind[tx]
theorem fh  c   b  :aF (c::b)=c.2+aF b:=by simp[aF]
theorem zu  c   b  :bJ (c::b)=c.1++bJ b:=by simp[bJ]
def e_:List (List UInt8×Int)->Int->Nat
 |[],_=>0
 |c::t,w=>if c.1=[10]\/w<c.2 then 0 else e_ t (w-c.2)+1
theorem qV:∀  l   w,e_ l w<=l.length
 |[],_=>ai _
 |c::t,w=>by
  simp only[e_];split;·simp
  ·have:=qV t (w-c.2);grind
def Fit(l:List (List UInt8×Int))(w:Int)(k:Nat):Prop:=∀j,j<k->tx l j≠[10]/\aF (l.take (j+1))<=w
theorem fitN_stop:∀  l   w   k,k<=l.length->Fit l w k->(k<l.length->tx l k=[10]\/w<aF (l.take (k+1)))->e_ l w=k
 |[],w,k,hk,_,_=>by grind[e_]
 |c::t,w,0,_,_,he=>by grind[tx,fh,aF,e_]
 |c::t,w,k+1,hk,hf,he=>by
  have h0:=hf 0 (by omega);simp only[tx,List.take_succ_cons,List.take_zero,fh,Mu,Option.map_some,Mq,show aF []=0 from rfl,Fk]at h0;have hn:¬(c.1=[10]\/w<c.2):=by rintro(h|h);exact h0.1 h;omega
  simp only[e_,if_neg hn];rw[fitN_stop t (w-c.2) k (by grind) (fun j hj=>by have:=hf (j+1) (by omega);grind[fh,tx]) (fun h=>by grind[fh,tx])]
theorem oN:∀  l   w,(∀c∈l,0<=c.2/\c.2<=2)->Fit l w (e_ l w)/\(e_ l w<l.length->tx l (e_ l w)=[10]\/w<aF (l.take (e_ l w+1)))
 |[],w,_=>⟨fun j hj=>by simp[e_]at hj,fun h=>by simp at h⟩
 |c::t,w,hb=>by
  by_cases h:c.1=[10]\/w<c.2;·simp only[e_,if_pos h];refine⟨fun j hj=>by omega,fun _=>?_⟩;grind[tx,aF]
  ·have ih:=oN t (w-c.2) (fun x hx=>hb x (by simp[hx]));simp only[e_,if_neg h];have h':=not_or.1 h;refine⟨fun j hj=>?_,fun hl=>?_⟩;·cases j with
    |zero=>grind[tx,aF]
    |succ j=>have:=ih.1 j (by omega);grind[fh,tx]
   grind[fh,tx]
def cV(l:List (List UInt8×Int)):Nat->Int
 |0=>-1
 |n+1=>if tx l n=[32]then n else cV l n
theorem sw  l  :∀n,cV l n<n/\-1<=cV l n
 |0=>by simp[cV]
 |n+1=>by have:=sw l n;grind[cV]
structure _j where
 n:Nat
 d:Nat
 e:Int
def aQ(r:List (List UInt8×Int))(w:Int):_j:=
 if e_ r w=r.length then⟨e_ r w,0,3⟩
 else if tx r (e_ r w)=[10]then⟨e_ r w,1,2⟩
 else if e_ r w=0 then⟨1,0,1⟩
 else if tx r (e_ r w)=[32]then⟨e_ r w,1,0⟩
 else if 0<=cV r (e_ r w)then⟨(cV r (e_ r w)).toNat,1,0⟩
 else⟨e_ r w,0,1⟩
theorem uB  r   w  :(aQ r w).n+(aQ r w).d<=r.length:=by have h:=qV r w;have hb:=sw r (e_ r w);grind[aQ]
theorem Cg  r   w  :(aQ r w).e=3\/1<=(aQ r w).n+(aQ r w).d:=by grind[aQ]
structure Ln where
 T:List UInt8
 W:Int
 F:Nat
 N:Nat
 E:Int
def cP(l:List (List UInt8×Int))(w:Int)(a:Nat):Ln:=
 let c:=aQ (l.drop a) w
 let r:=(l.drop a).take c.n
 if w<aF r then⟨List.replicate w.toNat 32,w,a,1,c.e⟩else⟨bJ r,aF r,a,r.length,c.e⟩
def oF(l:List (List UInt8×Int))(w:Int)(a:Nat):Nat:=a+(aQ (l.drop a) w).n+(aQ (l.drop a) w).d
theorem xe  l   w   a  (h:a<=l.length):oF l w a<=l.length:=by have:=uB (l.drop a) w;grind[oF]
theorem TI  l   w   a  :(cP l w a).E=(aQ (l.drop a) w).e:=by grind[cP]
theorem nxt_lt  l   w   a  (h:(cP l w a).E≠3):a<oF l w a:=by grind[TI,Cg,oF]
def mD:Nat->List (List UInt8×Int)->Int->Nat->List Ln
 |0,_,_,_=>[]
 |f+1,l,w,a=>if(cP l w a).E=3 then[cP l w a]else cP l w a::mD f l w (oF l w a)
theorem lX:∀  f g   l   w   a,a<=l.length->l.length<f+a->l.length<g+a->mD f l w a=mD g l w a
 |0,_,_,_,_,_,h,_=>by omega
 |_+1,0,_,_,_,_,_,h=>by omega
 |f+1,g+1,l,w,a,ha,hf,hg=>by
  simp only[mD];split;·rfl
  ·rename_i he;have:=nxt_lt l w a he;rw[lX f g l w (oF l w a) (xe l w a ha) (by omega) (by omega)]
def cZ(l:List (List UInt8×Int))(w:Int)(a:Nat):List Ln:=mD (l.length+1-a) l w a
theorem jR{l}{w}{a}(ha:a<=l.length)(h:(cP l w a).E=3):cZ l w a=[cP l w a]:=by unfold cZ;rw[show l.length+1-a=(l.length-a)+1 by omega];grind[mD]
theorem kP{l}{w}{a}(ha:a<=l.length)(h:(cP l w a).E≠3):cZ l w a=cP l w a::cZ l w (oF l w a):=by have h1:=nxt_lt l w a h;have h2:=xe l w a ha;unfold cZ;rw[show l.length+1-a=(l.length-a)+1 by omega];grind[mD,lX,oF]
theorem ft  l   w   a  (ha:a<=l.length):1<=(cZ l w a).length/\(cZ l w a).length<=l.length+1-a:=by
 generalize hn:l.length-a=n;induction n using Nat.strongRecOn generalizing a with
 |_ n ih=>grind[cP,jR,nxt_lt,xe,kP,oF]
def cK(l:List (List UInt8×Int))(w:Int):List Ln:=if w<1 then[]else cZ l w 0
theorem PM(a b:List UInt8):(⟨a.toArray⟩:ByteArray)++(⟨b.toArray⟩:ByteArray)=⟨(a++b).toArray⟩:=by apply l8;simp
def one(l:List (List UInt8×Int)):List (List UInt8×Int):=l.map fun c=>if c.1=[10]then([32],1)else c
theorem rM  R  :∀c∈cL R,c.1.length<=20:=by
 generalize hn:R.length=n;induction n using Nat.strongRecOn generalizing R with
 |_ n ih=>
  by_cases h:R=[];·grind[kC]
  ·have hp:=js h;have hl:=ou.2 h;grind[gw,gX,FN,Cc,oL,tH,jr]
theorem o_:∀  l,(∀c∈l,c.1.length<=20)->(bJ l).length<=20*l.length
 |[],_=>by simp[bJ]
 |c::l,h=>by have a:=o_ l (fun x hx=>h x (by simp[hx]));grind[zu]
theorem xA(l:List (List UInt8×Int))(h:∀c∈l,0<=c.2/\c.2<=2){j k}(tA:j<=k):aF (l.take j)<=aF (l.take k):=by
 induction k with
 |zero=>grind
 |succ k ih=>
  by_cases e:j=k+1;·grind
  ·have:=ih (by omega);by_cases hk:k<l.length;·grind[dS]
   ·rw[gt (show l.length<=k+1 by omega)];rw[gt (show l.length<=k by omega)]at this;omega
theorem JQ(r:List (List UInt8×Int))  w  (h:∀c∈r,0<=c.2/\c.2<=2) (hw:1<=w):aF (r.take (e_ r w))<=w:=by
 have sp:=(oN r w h).1;cases hf:e_ r w with
 |zero=>show(0:Int)<=w;omega
 |succ n=>exact(sp n (by omega)).2
theorem LR(r:List (List UInt8×Int))(h:∀c∈r,0<=c.2/\c.2<=2):aF (r.take 1)<=2:=by have:=(dR r h 1).2;omega
theorem zq(w:World)  zs   cs   al  (h:cs=(zs.map (Value.int .i64)).toArray):BQ (w.alloc (.cells cs 3)) (Sq w.heap.size zs.length al) zs:=by subst h;refine⟨_,al,rfl,.inr ⟨w.heap.size,0,rfl,by simp,fun j hj=>?_⟩⟩;simp_all
theorem vq(w:World):
 Cw 235 #[] w fun e w'=>∃v,e=Rw v/\BQ w' v (kF gD)/\Bt w w':=by go_enter func235,ntmps235;go_wp2;go_ret;exact⟨_,rfl,zq w (kF gD) _ 26 rfl,(ag _ _).alloc (ai _) _⟩
theorem Hz(w:World):
 Cw 236 #[] w fun e w'=>∃v,e=Rw v/\BQ w' v (kF iP)/\Bt w w':=by go_enter func236,ntmps236;go_wp2;go_ret;exact⟨_,rfl,zq w (kF iP) _ 28 rfl,(ag _ _).alloc (ai _) _⟩
theorem zo(r:Int)(l:List (Int×Int))(hl:l.length<=1000)(b off al:Nat)(w:World)(hc:∀j,j<(kF l).length->w.cell? (az b (off+j))=some (Iq ((kF l)[j]?.getD 0))):
 Cw 234 #[Iq r,.slice (some (az b off)) (kF l).length al] w fun e w'=>e=Rw (.bool (Ks r l))/\w'=w:=by
 have HC:=qH<|hc;clear hc;have hfl:=pN l;have BJ:=qH<|hfl;rw[hfl];clear hfl;go_enter func234,ntmps234;go_wp2;go_loop[5] (fun i=>∃k:Nat,k<=l.length/\i=Iq (2*k:Nat)/\Hid (∀j,j<k->¬((l.getD j (0,0)).1<=r/\r<=(l.getD j (0,0)).2))) (fun i=>2*l.length-(intOf i).toNat);case atStart=>exact⟨0,bc _,rfl,fun j h=>by omega⟩
 case round=>
  obtain⟨k,hk,rfl,M8⟩:=hrel;by_cases hlt:k<l.length
  ·have aK:(2*(k:Int))+1<2*(l.length:Int):=by omega
   obtain⟨p,q,hp⟩:∃p q,l.getD k (0,0)=(p,q):=⟨_,_,rfl⟩;have f:=Ob l k;rw[hp]at f;have c0:w.cell? (az b (off+2*k))=some (Iq p):=by rw[HC (2*k) (by rw[BJ.out];omega),f.1]
   have c1:w.cell? (az b (off+(2*k+1)))=some (Iq q):=by rw[HC (2*k+1) (by rw[BJ.out];omega),f.2]
   have HP:=qH<|hp;have hmem:(p,q)∈l:=by rw[<-hp,E_,dN hlt];exact l6 hlt
   have HM:=qH<|hmem;clear f hp hmem;by_cases h1:p<=r
   ·by_cases h2:r<=q;·have e:=qH<|(jP r l).2 ⟨_,HM,h1,h2⟩;go_wp2;go_ret;rw[e.out];simp_all
    ·go_wp2;go_round;case rel=>
      refine⟨k+1,by omega,by go_num,fun j hj=>?_⟩;by_cases ej:j=k;·subst ej;rw[HP.out];omega
      ·exact M8 j (by omega)
     case measure=>simp[intOf];omega
   ·go_wp2;go_round;case rel=>
     refine⟨k+1,by omega,by go_num,fun j hj=>?_⟩;by_cases ej:j=k;·subst ej;rw[HP.out];omega
     ·exact M8 j (by omega)
    case measure=>simp[intOf];omega
  ·have aK:¬(2*(k:Int))+1<2*(l.length:Int):=by omega
   have e:Hid (Ks r l=false):=by show _=_;rw[Bool.eq_false_iff];intro h;obtain⟨p,hp,a⟩:=(jP r l).1 h;obtain⟨j,hj,rfl⟩:=ox.1 hp;have:=M8 j (by omega);rw[E_,dN hj]at this;exact this a
   go_wp2;go_ret;rw[e.out];simp_all
theorem mC  r   l  (hl:l.length<=1000) (hl0:0<l.length)  v   w  (h:BQ w v (kF l)):
 Cw 234 #[Iq r,v] w fun e w'=>e=Rw (.bool (Ks r l))/\w'=w:=by
 obtain⟨a,al,rfl,hh⟩:=h;have bG:kF l≠[]:=fun e=>by grind[pN]
 grind[zo]
theorem mM(r:Int)(w:World):
 Cw 212 #[Iq r] w fun e w'=>e=Rw (Iq (oI r))/\Bt w w':=by
 unfold oI;by_cases hz:Ks r gD=true;·rw[if_pos hz];have HZ:=qH<|hz;clear hz;go_enter func212,ntmps212;go_wp2_with fail;refine(vq _).mono ?_;rintro e w1 ⟨v1,rfl,I1,b1⟩;go_wp2_with fail;refine(mC r gD (by decide) (by decide) _ _ I1).mono ?_;rintro e w2 ⟨rfl,rfl⟩;rw[HZ.out];go_wp2;go_ret;simp_all
 ·have HZ:Hid (Ks r gD=false):=by show _=_;simpa using hz
  rw[if_neg hz];clear hz;by_cases hw:Ks r iP=true;focus rw[if_pos hw];have HW:=qH<|hw
  rotate_left;focus rw[if_neg hw];have HW:Hid (Ks r iP=false):=by show _=_;simpa using hw
  rotate_left;all_goals clear hw;go_enter func212,ntmps212;go_wp2_with fail;refine(vq _).mono ?_;rintro e w1 ⟨v1,rfl,I1,b1⟩;go_wp2_with fail;refine(mC r gD (by decide) (by decide) _ _ I1).mono ?_;rintro e w2 ⟨rfl,rfl⟩;rw[HZ.out];clear I1;go_wp2_with fail;refine(Hz _).mono ?_;rintro e w3 ⟨v3,rfl,I3,b3⟩;go_wp2_with fail;refine(mC r iP (by decide) (by decide) _ _ I3).mono ?_;rintro e w4 ⟨rfl,rfl⟩;rw[HW.out];go_wp2;go_ret;exact⟨rfl,b1.trans (b3.mono b1.size)⟩
