import Derived.Test.YtnponhbgicbkcaaGreatDoorL30
import Derived.BigQuiet
set_option linter.unusedVariables false
set_option maxRecDepth 100000
set_option maxHeartbeats 16000000
namespace Go.Proofs.YtnponhbgicbkcaaGreatDoor
section
open Go.RowKit
def Cls(w:World)(v:Value)(l:List (List UInt8×Int)):Prop:=
 ∃a cap,v=.slice a l.length cap∧(l=[]∨∃b off,a=some ⟨b,off,none⟩∧b<w.heap.size∧∀j (hj:j<l.length),w.cell? ⟨b,off+j*2,none⟩=some (.string ⟨(l[j]).1.toArray⟩)∧w.cell? ⟨b,off+j*2+1,none⟩=some (Iq (l[j]).2))
theorem Cls.below{w w'}{v}{l}(h:Cls w v l)(hb:Below w.heap.size w w'):Cls w' v l:=by
 obtain⟨a,cap,rfl,hh⟩:=h;refine⟨a,cap,rfl,?_⟩;rcases hh with rfl|⟨b,off,rfl,hl,hc⟩;·exact .inl rfl
 ·exact .inr ⟨b,off,rfl,Nat.lt_of_lt_of_le hl hb.size,fun j hj=>⟨(hb.cell (p:=⟨b,off+j*2,none⟩) hl).trans (hc j hj).1,(hb.cell (p:=⟨b,off+j*2+1,none⟩) hl).trans (hc j hj).2⟩⟩
theorem cCells_length l :(cCells l).length=l.length*2:=by
 induction l with
 |nil=>rfl
 |cons c l ih=>simp only[cCells,List.flatMap_cons,List.length_append,List.length_cons,List.length_nil]at*;omega
theorem cCells_at l  j (hj:j<l.length):(cCells l)[j*2]?=some (.string ⟨(l[j]).1.toArray⟩)∧(cCells l)[j*2+1]?=some (Iq (l[j]).2):=by
 induction l generalizing j with
 |nil=>simp at hj
 |cons c l ih=>
  have e:cCells (c::l)=.string ⟨c.1.toArray⟩::Iq c.2::cCells l:=rfl;cases j with
  |zero=>rw[e];simp
  |succ j=>have:=ih j (by simpa using hj);rw[e,show(j+1)*2=j*2+1+1 by omega];simpa using this
theorem cls_own{w}{B n}{e}{v}{l}(h:w.ownsRow B e 2 v n (cCells l)):Cls w v l:=by
 have hl:l.length=n:=by have:=h.1;rw[cCells_length]at this;omega
 rcases h.2 with⟨rfl,rfl⟩|⟨g,cap,cur,rfl,_,hg,_⟩;·have hz:=List.length_eq_zero_iff.1 hl;subst hz;exact⟨none,0,rfl,.inl rfl⟩
 ·refine⟨some ⟨g,0,none⟩,cap,by rw[hl],.inr ⟨g,0,rfl,(Array.getElem?_eq_some_iff.1 hg).1,fun j hj=>?_⟩⟩;have c:=cCells_at l j hj;have a0:=h.cells (g:=g) rfl (j*2) _ c.1;have a1:=h.cells (g:=g) rfl (j*2+1) _ c.2;have e0:(⟨g,0,none⟩:Addr).add (j*2)=⟨g,0+j*2,none⟩:=by unfold Addr.add;split<;>simp_all
  have e1:(⟨g,0,none⟩:Addr).add (j*2+1)=⟨g,0+j*2+1,none⟩:=by unfold Addr.add;split<;>simp_all
  rw[e0]at a0;rw[e1]at a1;exact⟨a0,a1⟩
end
section
open Go.RowKit Go.Proofs.Tryz
theorem fitting_any l  v  W  w (hcl:Cls w v l)(hbd:∀c∈l,0≤c.2∧c.2≤2)(hlen:l.length≤1099511627776)(hW0:-9223372036854775808≤W)(hW1:W≤9223372036854775807):
 Calls prog 201 #[v,Iq W] w fun e w'=>e=.returned (Iq (fitN l W))∧Below w.heap.size w w':=by
 obtain⟨a,cap,rfl,hh⟩:=hcl;have HBD:=qH<|hbd;clear hbd;go_enter func201,ntmps201;go_wp2;go_loopw[1,9] (fun x i wr=>∃k:Nat,k≤l.length∧i=Iq k∧x=Iq (W-wideSum (l.take k))∧Hid (Fit l W k)∧Below w.heap.size w wr) (fun _ i _=>l.length-(intOf i).toNat);case atStart=>exact⟨0,Nat.zero_le _,rfl,by simp[wideSum],fun j hj=>by omega,Below.refl _ _⟩
 case round=>
  obtain⟨k,hk,rfl,rfl,hfit,hbw⟩:=hrel;have hwb:=wideSum_bd l HBD k;have hwW:k=0∨wideSum (l.take k)≤W:=by
   cases k with
   |zero=>exact .inl rfl
   |succ k=>exact .inr (hfit k (by omega)).2
  have hw0:k=0->wideSum (l.take k)=0:=fun e=>by subst e;rfl
  have hsz:=hbw.size;by_cases hlt:k<l.length
  ·have hlt':(k:Int)<(l.length:Int):=by omega
   have hne:l≠[]:=fun e=>by rw[e]at hlt;simp at hlt
   obtain⟨b,off,rfl,hb,hc⟩:=hh.resolve_left hne;obtain⟨T,V,hTV⟩:∃T V,l[k]=(T,V):=⟨_,_,rfl⟩;have hV:=HBD l[k] (List.getElem_mem hlt);have c0:wr.cell? ⟨b,off+k*2,none⟩=some (.string ⟨T.toArray⟩):=by have:=(hc k hlt).1;rw[hTV]at this;exact(hbw.cell (p:=⟨b,off+k*2,none⟩) hb).trans this
   have c1:wr.cell? ⟨b,off+k*2+1,none⟩=some (Iq V):=by have:=(hc k hlt).2;rw[hTV]at this;exact(hbw.cell (p:=⟨b,off+k*2+1,none⟩) hb).trans this
   have HS:Hid (wideSum (l.take (k+1))=wideSum (l.take k)+V):=by show _=_;rw[wideSum_snoc l k hlt,hTV]
   have HX:Hid (tx l k=T):=by show _=_;rw[tx_at hlt,hTV]
   rw[hTV]at hV;obtain⟨X,hX⟩:=nmd (wideSum (l.take k));rw[hX]at HS hwb hwW hw0;rw[hX];simp only at hV;have hr0:-9223372036854775808≤W-X:=by omega
   have hr1:W-X≤9223372036854775807:=by omega
   clear hh hc hTV hX hne;by_cases h10:T=[10]
   ·have HE:=qH<|fitN_stop l W k hk hfit (fun _=>.inl (by rw[HX.out,h10]));have h10':(T==[10])=true:=by rw[h10];rfl
    go_wp2;go_ret;rw[HE.out];exact⟨rfl,hbw.alloc hsz _⟩
   ·have h10':(T==[10])=false:=by simpa using h10
    by_cases hgt:W-X<V;·have HE:=qH<|fitN_stop l W k hk hfit (fun _=>.inr (by rw[HS.out];omega));go_wp2;go_ret;rw[HE.out];exact⟨rfl,hbw.alloc hsz _⟩
    ·have HF:Hid (Fit l W (k+1)):=fun j hj=>by
      by_cases e:j=k;·subst e;rw[HX.out,HS.out];exact⟨h10,by omega⟩
      ·exact hfit j (by omega)
     go_wp2;go_roundw;case rel=>exact⟨k+1,by omega,by go_num,by rw[HS.out];congr 1;omega,HF,hbw.alloc hsz _⟩
     case measure=>simp[intOf];omega
  ·have hlt':¬(k:Int)<(l.length:Int):=by omega
   have HE:=qH<|fitN_stop l W k hk hfit (fun h=>absurd h hlt);have hkl:k=l.length:=by omega
   clear hh;go_wp2;go_ret;rw[HE.out];exact⟨by rw[hkl];rfl,hbw⟩
theorem lastBlank_any l  v  w (hcl:Cls w v l)(hlen:l.length≤1099511627776):
 Calls prog 202 #[v] w fun e w'=>e=.returned (Iq (lastB l l.length))∧Below w.heap.size w w':=by
 obtain⟨a,cap,rfl,hh⟩:=hcl;go_enter func202,ntmps202;go_wp2;go_loopw[3] (fun i wr=>∃k:Nat,k≤l.length∧i=Iq ((k:Int)-1)∧Hid (lastB l l.length=lastB l k)∧Below w.heap.size w wr) (fun i _=>(intOf i+1).toNat);case atStart=>exact⟨l.length,Nat.le_refl _,rfl,rfl,Below.refl _ _⟩
 case round=>
  obtain⟨k,hk,rfl,hE,hbw⟩:=hrel;have hsz:=hbw.size;cases k with
  |zero=>clear hh;go_wp2;go_ret;rw[hE.out];exact⟨rfl,hbw⟩
  |succ k=>
   have hlt:k<l.length:=by omega
   have hne:l≠[]:=fun e=>by rw[e]at hlt;simp at hlt
   obtain⟨b,off,rfl,hb,hc⟩:=hh.resolve_left hne;obtain⟨T,V,hTV⟩:∃T V,l[k]=(T,V):=⟨_,_,rfl⟩;have c0:wr.cell? ⟨b,off+k*2,none⟩=some (.string ⟨T.toArray⟩):=by have:=(hc k hlt).1;rw[hTV]at this;exact(hbw.cell (p:=⟨b,off+k*2,none⟩) hb).trans this
   have HX:Hid (tx l k=T):=by show _=_;rw[tx_at hlt,hTV]
   have hki:((k+1:Nat):Int)-1=(k:Int):=by omega
   rw[hki];clear hh hc hTV hne;by_cases h32:T=[32]
   ·have HE:Hid (lastB l l.length=k):=by show _=_;rw[hE.out];simp only[lastB];rw[if_pos (by rw[HX.out,h32])]
    have h32':(T==[32])=true:=by rw[h32];rfl
    go_wp2;go_ret;rw[HE.out];exact⟨rfl,hbw⟩
   ·have h32':(T==[32])=false:=by simpa using h32
    have HE:Hid (lastB l l.length=lastB l k):=by show _=_;rw[hE.out];simp only[lastB];rw[if_neg (by rw[HX.out];exact h32)]
    go_wp2;go_roundw;case rel=>exact⟨k,by omega,by go_num,HE,hbw⟩
    case measure=>simp[intOf]
theorem columns_any s  w (ht:TabAt w)(hs:s.size≤1099511627776):
 Calls prog 137 #[.string s] w fun e w'=>e=.returned (Iq (wideSum (clus (runes s.data.toList))))∧Below w.heap.size w w':=by
 have hsl:s.data.toList.length=s.size:=by rw[Array.length_toList];rfl
 have hR:=runes_length s.data.toList;have hC:=clus_length (runes s.data.toList);rw[hsl]at hR;have hbd:=clus_wide (runes s.data.toList);have G:Hid (Calls prog 162 #[.string s] w fun e w'=>∃v,e=.returned v∧Cls w' v (clus (runes s.data.toList))∧Below w.heap.size w w'):=by refine(gClusters_any s w ht hs).mono ?_;rintro e w1 ⟨v,rfl,o,b⟩;exact⟨v,rfl,cls_own o,b⟩
 obtain⟨l,hl⟩:=nmd (clus (runes s.data.toList));rw[hl]at G hC hbd;have HL:=qH<|hl;have HBD:=qH<|hbd;clear hl hsl ht hbd;go_enter func137,ntmps137;go_wp2_with fail;refine G.mono ?_;rintro e w1 ⟨v1,rfl,⟨a,cap,rfl,hh⟩,b1⟩;have hs1:=b1.size;clear G;go_wp2;go_loopw[3,9] (fun t i wr=>∃k:Nat,k≤l.length∧i=Iq k∧t=Iq (wideSum (l.take k))∧Below w1.heap.size w1 wr) (fun _ i _=>l.length-(intOf i).toNat);case atStart=>exact⟨0,Nat.zero_le _,rfl,rfl,Below.refl _ _⟩
 case round=>
  obtain⟨k,hk,rfl,rfl,hbw⟩:=hrel;have hwb:=wideSum_bd l HBD k;have hsz:=hbw.size;by_cases hlt:k<l.length
  ·have hlt':(k:Int)<(l.length:Int):=by omega
   have hne:l≠[]:=fun e=>by rw[e]at hlt;simp at hlt
   obtain⟨b,off,rfl,hb,hc⟩:=hh.resolve_left hne;obtain⟨T,W,hTW⟩:∃T W,l[k]=(T,W):=⟨_,_,rfl⟩;have hW:=HBD l[k] (List.getElem_mem hlt);have c0:wr.cell? ⟨b,off+k*2,none⟩=some (.string ⟨T.toArray⟩):=by have:=(hc k hlt).1;rw[hTW]at this;exact(hbw.cell (p:=⟨b,off+k*2,none⟩) hb).trans this
   have c1:wr.cell? ⟨b,off+k*2+1,none⟩=some (Iq W):=by have:=(hc k hlt).2;rw[hTW]at this;exact(hbw.cell (p:=⟨b,off+k*2+1,none⟩) hb).trans this
   have HS:Hid (wideSum (l.take (k+1))=wideSum (l.take k)+W):=by show _=_;rw[wideSum_snoc l k hlt,hTW]
   rw[hTW]at hW;obtain⟨X,hX⟩:=nmd (wideSum (l.take k));rw[hX]at HS hwb;rw[hX];simp only at hW;clear hh hc hTW hX hne;go_wp2;go_roundw;case rel=>exact⟨k+1,by omega,by go_num,by rw[HS.out],hbw.alloc hsz _⟩
   case measure=>simp[intOf];omega
  ·have hlt':¬(k:Int)<(l.length:Int):=by omega
   have HE:Hid (l.take k=l):=List.take_of_length_le (by omega);clear hh;go_wp2;go_ret;rw[HL.out,HE.out];exact⟨rfl,b1.trans (hbw.mono hs1)⟩
theorem str_append'(a b:List UInt8):(⟨a.toArray⟩:ByteArray)++(⟨b.toArray⟩:ByteArray)=⟨(a++b).toArray⟩:=by apply ByteArray.ext;simp
theorem infoRCluster:(prog.info? 153).map (fun i=>(i.zero,i.size,i.bytes))=some (some (.agg #[.string ⟨#[]⟩,Iq 0]),2,24):=by kernel_rfl
theorem enc_snoc1 l  x :enc (l++[x])=enc l++Lib.encodeRune x:=by simp[enc]
theorem keep_enc_le b  L  k (h:k≤L.length):(enc (b::keep L k)).length≤20:=by have h1:=enc_le (b::keep L k);have h2:=keep_length L k h;rw[List.length_cons]at h1;omega
theorem clus_ten{R}{pos}{acc}(hp:pos<R.length)(h:acc++clus (R.drop pos)=clus R)(hr:R[pos]=10):
 (acc++[([10],0)])++clus (R.drop (pos+1))=clus R:=by
 have e:R.drop pos=10::R.drop (pos+1):=by rw[List.drop_eq_getElem_cons hp,hr]
 have e2:clus (10::R.drop (pos+1))=([10],0)::clus (R.drop (pos+1)):=by rw[clus_step (R:=10::R.drop (pos+1)) (by simp)];simp[cText,cWide,cNum]
 rw[<-h,e,e2];simp
theorem clus_mark{R}{pos k}{acc}{r}(hp:pos<R.length)(h:acc++clus (R.drop pos)=clus R)(hr:R[pos]=r)(h10:r≠10)(hm:isMk r=true)(hk:mks (R.drop pos)=(R.drop pos).take k)(hkl:k≤(R.drop pos).length):
 (acc++[(enc (32::keep (R.drop pos) k),1)])++clus (R.drop (pos+k))=clus R:=by
 have e:R.drop pos=r::R.drop (pos+1):=by rw[List.drop_eq_getElem_cons hp,hr]
 have e1:cOwn (r::R.drop (pos+1))=0:=by simp only[cOwn,if_pos hm]
 have e2:cBase (r::R.drop (pos+1))=32:=by simp only[cBase,if_pos hm]
 have e3:cMarks (r::R.drop (pos+1))=(R.drop pos).take k:=by unfold cMarks;rw[e1,List.drop_zero,<-e,hk]
 have hne:R.drop pos≠[]:=by rw[e];simp
 rw[<-h,clus_step hne];have c1:cText (R.drop pos)=enc (32::keep (R.drop pos) k):=by rw[e];simp only[cText,if_neg h10,e2,e3];rw[<-e];rfl
 have c2:cWide (R.drop pos)=1:=by rw[e];simp only[cWide,if_neg h10,e2];exact wid_blank
 have c3:cNum (R.drop pos)=k:=by rw[e];simp only[cNum,if_neg h10,e1,e3,List.length_take,Nat.zero_add];omega
 rw[c1,c2,c3,List.drop_drop];simp
theorem clus_base{R}{pos k}{acc}{r}(hp:pos<R.length)(h:acc++clus (R.drop pos)=clus R)(hr:R[pos]=r)(h10:r≠10)(hm:isMk r=false)(hk:mks (R.drop (pos+1))=(R.drop (pos+1)).take k)(hkl:k≤(R.drop (pos+1)).length):
 (acc++[(enc (r::keep (R.drop (pos+1)) k),wid r)])++clus (R.drop (pos+1+k))=clus R:=by
 have hm':¬isMk r=true:=by rw[hm];simp
 have e:R.drop pos=r::R.drop (pos+1):=by rw[List.drop_eq_getElem_cons hp,hr]
 have e1:cOwn (r::R.drop (pos+1))=1:=by simp only[cOwn,if_neg hm']
 have e2:cBase (r::R.drop (pos+1))=r:=by simp only[cBase,if_neg hm']
 have e3:cMarks (r::R.drop (pos+1))=(R.drop (pos+1)).take k:=by unfold cMarks;rw[e1];exact hk
 have hne:R.drop pos≠[]:=by rw[e];simp
 rw[<-h,clus_step hne];have c1:cText (R.drop pos)=enc (r::keep (R.drop (pos+1)) k):=by rw[e];simp only[cText,if_neg h10,e2,e3];rfl
 have c2:cWide (R.drop pos)=wid r:=by rw[e];simp only[cWide,if_neg h10,e2]
 have c3:cNum (R.drop pos)=1+k:=by rw[e];simp only[cNum,if_neg h10,e1,e3,List.length_take];omega
 rw[c1,c2,c3,List.drop_drop,Nat.add_assoc];simp
theorem mark_pos{R:List Int}{pos k}{r}(hp:pos<R.length)(hr:R[pos]=r)(hm:isMk r=true)(hk:mks (R.drop pos)=(R.drop pos).take k):1≤k:=by
 rcases Nat.eq_zero_or_pos k with e|e
 ·subst e;have e:R.drop pos=r::R.drop (pos+1):=by rw[List.drop_eq_getElem_cons hp,hr]
  rw[e]at hk;unfold mks at hk;rw[List.takeWhile_cons,if_pos hm]at hk;simp at hk
 ·exact e
theorem rClusters_any s  w (hs:s.size≤1099511627776):
 Calls prog 56 #[.string s] w fun e w'=>∃v,e=.returned v∧w'.ownsRow w.heap.size 153 2 v (clus (runes s.data.toList)).length (cCells (clus (runes s.data.toList)))∧Below w.heap.size w w':=by
 obtain⟨i0,hi,hz0,hz1,hz2⟩:=info_parts infoRCluster;have hR:=runes_length s.data.toList;rw[len_data]at hR;go_enter func56,ntmps56;go_wp2_with fail;refine(rDecode_any s _ (by omega)).mono ?_;rintro e w1 ⟨v1,rfl,o1,b1⟩;obtain⟨R,hRe⟩:=nmd (runes s.data.toList);rw[hRe]at o1 hR;have HRe:=qH<|hRe;obtain⟨a,cap,rfl,hh⟩:=ints_own' o1;clear o1 hRe;have hs1:=b1.size;go_wp2;go_loopw[4,5] (fun v i wr=>∃(pos:Nat) (acc:List (List UInt8×Int)),i=Iq pos∧pos≤R.length∧wr.ownsRow w1.heap.size 153 2 v acc.length (cCells acc)∧Below w1.heap.size w1 wr∧Hid (acc++clus (R.drop pos)=clus R)∧acc.length≤pos) (fun _ i _=>R.length-(intOf i).toNat);case atStart=>exact⟨0,[],rfl,Nat.zero_le _,World.ownsRow_nil _ _ _ _,Below.refl _ _,rfl,Nat.le_refl _⟩
 case round=>
  obtain⟨pos,acc,rfl,hps,hown,hbw,hacc,hal⟩:=hrel;have hsz:=hbw.size;by_cases hp:pos<R.length
  ·have hp':(pos:Int)<(R.length:Int):=by omega
   have hne:R≠[]:=fun e=>by rw[e]at hp;simp at hp
   obtain⟨b,off,rfl,hb,hc⟩:=hh.resolve_left hne;have HC:Hid (∀(wX:World),Below w1.heap.size w1 wX->∀j (hj:j<R.length),wX.cell? ⟨b,off+j,none⟩=some (Iq R[j])):=by intro wX hX j hj;rw[(hX.cell (p:=⟨b,off+j,none⟩) hb),hc j hj,List.getElem?_eq_getElem hj];rfl
   obtain⟨r,hr⟩:=nmd (R[pos]);have hcr:wr.cell? ⟨b,off+pos,none⟩=some (Iq r):=by have:=HC wr hbw pos hp;rw[hr]at this;exact this
   have HR:=qH<|hr;clear hh hc hr hne;by_cases h10:r=10
   ·have HS:=qH<|clus_ten hp hacc (by rw[HR.out];exact h10);subst h10;clear hacc HC HR;go_wp2_with(at_builtin;refine ap1 hi hz0 hz1 hz2 hown hbw [.string ⟨#[10]⟩,Iq 0] rfl _ _ rfl underlying113 ⟨rfl,by decide,by decide⟩ rfl rfl ⟨rfl,rfl⟩ (by omega) ?_);intro v' w9 hown' hb9;clear hown hbw;go_wp2;go_roundw;case rel=>refine⟨pos+1,acc++[([10],0)],by go_num,by omega,?_,hb9,HS,by simp;omega⟩;rw[List.length_append,cCells_append];exact hown'
    case measure=>simp[intOf];omega
   ·have h10':(r==10)=false:=by simp[h10]
    have H10:Hid (r≠10):=h10;clear h10;have HX:∃(v:Int) (o:Nat) (c W:Int),wid r=v∧(v=0∧o=0∧c=32∧W=1∨(v==0)=false∧o=1∧c=r∧W=v)∧o≤1∧Hid (∀k,k≤(R.drop (pos+o)).length->mks (R.drop (pos+o))=(R.drop (pos+o)).take k->(acc++[(enc (c::keep (R.drop (pos+o)) k),W)])++clus (R.drop (pos+k+o))=clus R∧1≤k+o):=by
     by_cases hm:wid r=0;·have HM:=(isMk_iff r).2 ⟨H10,hm⟩;exact⟨0,0,32,1,hm,.inl ⟨rfl,rfl,rfl,rfl⟩,by omega,fun k hk h=>⟨clus_mark hp hacc HR H10 HM h hk,mark_pos hp HR HM h⟩⟩
     ·have HM:=(isMk_false r).2 (fun h=>hm h.2);refine⟨wid r,1,r,wid r,rfl,.inr ⟨by simp[hm],rfl,rfl,rfl⟩,by omega,fun k hk h=>⟨?_,by omega⟩⟩;have:=clus_base (k:=k) hp hacc HR H10 HM h hk;rwa[show pos+1+k=pos+k+1 by omega]at this
    obtain⟨v,o,c,W,hv,hcs,ho1,HSX⟩:=HX;have HWd:Hid (∀w,Calls prog 88 #[Iq r] w fun e w'=>e=.returned (Iq v)∧Below w.heap.size w w'):=by intro w;have:=rWidth_any r w;rw[hv]at this;exact this
    clear hv hacc;rcases hcs with⟨hv,ho,hc,hW⟩|⟨hv,ho,hc,hW⟩;all_goals
     have HO:=qH<|ho;have HCc:=qH<|hc;have HWW:=qH<|hW;clear ho hc hW;try subst hv
     go_wp2_with fail;refine(HWd _).mono ?_;rintro e w2 ⟨rfl,b2⟩;have hown2:=own_below2 hown b2;have hB2:=hbw.trans (b2.mono hsz);have hcr2:w2.cell? ⟨b,off+pos,none⟩=some (Iq r):=by have:=HC w2 hB2 pos hp;rw[HR.out]at this;exact this
     clear b2 hown hbw hcr;go_wp2_with fail;refine(written_any _ _).mono ?_;rintro e w3 ⟨rfl,b3⟩;have hs12:=hB2.size;have hown3:=own_below2 hown2 b3;have hB3:=hB2.trans (b3.mono hs12);have hs13:=hB3.size;clear b3 hown2 hB2 hcr2;obtain⟨L,hL⟩:=nmd (R.drop (pos+o));have hL1:L.length+(pos+o)≤R.length:=by rw[<-hL,List.length_drop];omega
     have hL2:R.length≤L.length+(pos+o):=by rw[<-hL,List.length_drop];omega
     have HL:=qH<|hL;have HLk:Hid (∀k (hk:k<L.length) (hk2:pos+k+o<R.length),R[pos+k+o]=L[k]):=by
      intro k hk hk2;have e:L[k]?=R[pos+k+o]?:=by rw[<-HL.out,List.getElem?_drop];congr 1;omega
      rw[List.getElem?_eq_getElem hk,List.getElem?_eq_getElem hk2]at e;exact(Option.some.inj e).symm
     clear hL;try rw[show Lib.encodeRune r=enc [r]by simp[enc]]
     go_wp2;go_loopw[5,7,8] (fun q tx m wr=>∃k:Nat,k≤L.length∧q=Iq (((pos+k+o:Nat):Int)-1)∧m=Iq k∧tx=.string ⟨(enc (c::keep L k)).toArray⟩∧Below w3.heap.size w3 wr∧Hid (∀j (hj:j<L.length),j<k->isMk (L[j])=true)) (fun _ _ m _=>L.length-(intOf m).toNat);case atStart=>exact⟨0,Nat.zero_le _,by rw[HO.out];simp,rfl,by rw[HCc.out];rfl,Below.refl _ _,fun j hj h=>by omega⟩
     case round=>
      obtain⟨k,hk,rfl,rfl,rfl,hbw,hmk⟩:=hrel;have hszr:=hbw.size;have hB4:=hB3.trans (hbw.mono hs13);have hel:=keep_enc_le c L k hk;by_cases hlt:k<L.length
      ·have hlt':((pos+k+o:Nat):Int)<(R.length:Int):=by omega
       obtain⟨x,hx⟩:=nmd (L[k]);have HX:=qH<|hx;have HCX:Hid (∀(wX:World),Below w1.heap.size w1 wX->wX.cell? ⟨b,off+(pos+k+o),none⟩=some (Iq x)):=by intro wX hX;have:=HC wX hX (pos+k+o) (by omega);rw[HLk k hlt (by omega),HX.out]at this;exact this
       have hcx:=HCX wr hB4;clear hx;by_cases hx10:x=10
       ·have HMK:Hid (mks L=L.take k):=takeWhile_stop isMk _ k hk hmk (fun hj=>by rw[HX.out,isMk_false,hx10];simp);obtain⟨hS,hk1⟩:=HSX k (by rw[HL.out];exact hk) (by rw[HL.out];exact HMK);rw[HL.out,HWW.out]at hS;have HS:=qH<|hS;clear hS;have hown4:=own_below2 hown3 hbw;have hx10':(x !=10)=false:=by rw[hx10];rfl
        obtain⟨TX,hTX⟩:=nmd (enc (c::keep L k));rw[hTX]at HS;rw[hTX];clear hx10 hmk HX hTX hown3 hB3 hel hbw;go_wp2_with(at_builtin;refine ap1 hi hz0 hz1 hz2 hown4 hB4 [.string ⟨TX.toArray⟩,Iq _] rfl _ _ rfl underlying113 ⟨rfl,by decide,by decide⟩ rfl rfl ⟨rfl,rfl⟩ (by omega) ?_);intro v' w9 hown' hb9;clear hown4 hB4;go_wp2;go_roundw;case rel=>refine⟨pos+k+o,acc++[(TX,_)],by go_num,by omega,?_,hb9,HS,by simp;omega⟩;rw[List.length_append,cCells_append];exact hown'
        case measure=>simp[intOf];omega
       ·have hx10':(x !=10)=true:=by simp[hx10]
        have HX10:Hid (x≠10):=hx10;clear hx10;by_cases hxw:wid x=0
        ·have HXM:=qH<|(isMk_iff x).2 ⟨HX10,hxw⟩;have hmk':Hid (∀j (hj:j<L.length),j<k+1->isMk (L[j])=true):=by
          intro j hj h;by_cases ej:j=k;·subst ej;rw[HX.out];exact HXM
          ·exact hmk j hj (by omega)
         have HXW:Hid (∀w,Calls prog 88 #[Iq x] w fun e w'=>e=.returned (Iq 0)∧Below w.heap.size w w'):=by intro w;have:=rWidth_any x w;rw[hxw]at this;exact this
         clear hxw hmk;go_wp2_with fail;refine(HXW _).mono ?_;rintro e w5 ⟨rfl,b5⟩;have hbw5:=hbw.trans (b5.mono hszr);have hcx5:=HCX w5 (hB4.trans (b5.mono (by omega)));have hs35:=hbw5.size;clear b5 hbw hB4 hcx;by_cases h4:k<4
         ·have h4':((k+1:Nat):Int)≤4:=by omega
          have HKA:Hid (enc (c::keep L (k+1))=enc (c::keep L k)++Lib.encodeRune x):=by show _=_;rw[keep_add _ _ hlt h4,HX.out,<-List.cons_append,enc_snoc1]
          go_wp2_with(go_at_call 89;refine(written_any x _).mono ?_);rintro e w6 ⟨rfl,b6⟩;have hl4:=encodeRune_le x;have hbw6:=hbw5.trans (b6.mono hs35);obtain⟨TX,hTX⟩:=nmd (enc (c::keep L k));obtain⟨U,hU⟩:=nmd (Lib.encodeRune x);rw[hTX,hU]at HKA;rw[hTX]at hel;rw[hU]at hl4;rw[hTX,hU];clear b6 hbw5 hcx5 hTX hU;go_wp2;go_roundw;case rel=>exact⟨k+1,by omega,by go_num,by go_num,by rw[HKA.out,<-str_append'],hbw6,hmk'⟩
          case measure=>simp[intOf];omega
         ·have h4':¬((k+1:Nat):Int)≤4:=by omega
          have HKF:Hid (keep L (k+1)=keep L k):=keep_full _ _ (by omega);go_wp2;go_roundw;case rel=>exact⟨k+1,by omega,by go_num,by go_num,by rw[HKF.out],hbw5,hmk'⟩
          case measure=>simp[intOf];omega
        ·obtain⟨y,hy⟩:=nmd (wid x);have hy0:(y==0)=false:=by rw[<-hy];simp[hxw]
         have HXW:Hid (∀w,Calls prog 88 #[Iq x] w fun e w'=>e=.returned (Iq y)∧Below w.heap.size w w'):=by intro w;have:=rWidth_any x w;rw[hy]at this;exact this
         have HMK:Hid (mks L=L.take k):=takeWhile_stop isMk _ k hk hmk (fun hj=>by rw[HX.out,isMk_false];exact fun h=>hxw h.2);obtain⟨hS,hk1⟩:=HSX k (by rw[HL.out];exact hk) (by rw[HL.out];exact HMK);rw[HL.out,HWW.out]at hS;have HS:=qH<|hS;clear hS;have hown4:=own_below2 hown3 hbw;obtain⟨TX,hTX⟩:=nmd (enc (c::keep L k));rw[hTX]at HS;rw[hTX];clear hmk HX hTX hown3 hB3 hel hbw hxw hy;go_wp2_with fail;refine(HXW _).mono ?_;rintro e w5 ⟨rfl,b5⟩;have hown5:=own_below2 hown4 b5;have hB5:=hB4.trans (b5.mono (by omega));have hs15:=hB5.size;clear b5 hown4 hB4 hcx;go_wp2_with(at_builtin;refine ap1 hi hz0 hz1 hz2 hown5 hB5 [.string ⟨TX.toArray⟩,Iq _] rfl _ _ rfl underlying113 ⟨rfl,by decide,by decide⟩ rfl rfl ⟨rfl,rfl⟩ (by omega) ?_);intro v' w9 hown' hb9;clear hown5 hB5;go_wp2;go_roundw;case rel=>refine⟨pos+k+o,acc++[(TX,_)],by go_num,by omega,?_,hb9,HS,by simp;omega⟩;rw[List.length_append,cCells_append];exact hown'
         case measure=>simp[intOf];omega
      ·have hlt':¬((pos+k+o:Nat):Int)<(R.length:Int):=by omega
       have HMK:Hid (mks L=L.take k):=takeWhile_stop isMk _ k hk hmk (fun hj=>absurd hj hlt);obtain⟨hS,hk1⟩:=HSX k (by rw[HL.out];exact hk) (by rw[HL.out];exact HMK);rw[HL.out,HWW.out]at hS;have HS:=qH<|hS;clear hS;have hown4:=own_below2 hown3 hbw;obtain⟨TX,hTX⟩:=nmd (enc (c::keep L k));rw[hTX]at HS;rw[hTX];clear hmk hTX hown3 hB3 hel hbw;go_wp2_with(at_builtin;refine ap1 hi hz0 hz1 hz2 hown4 hB4 [.string ⟨TX.toArray⟩,Iq _] rfl _ _ rfl underlying113 ⟨rfl,by decide,by decide⟩ rfl rfl ⟨rfl,rfl⟩ (by omega) ?_);intro v' w9 hown' hb9;clear hown4 hB4;go_wp2;go_roundw;case rel=>refine⟨pos+k+o,acc++[(TX,_)],by go_num,by omega,?_,hb9,HS,by simp;omega⟩;rw[List.length_append,cCells_append];exact hown'
       case measure=>simp[intOf];omega
  ·have hp':¬(pos:Int)<(R.length:Int):=by omega
   have e:=hacc.out;rw[List.drop_eq_nil_of_le (by omega),clus_nil,List.append_nil]at e;have HE:=qH<|e;clear e hh hacc;go_wp2;go_ret;rw[HRe.out,<-HE.out];exact⟨_,rfl,ownsRow_base hown hs1,b1.trans (hbw.mono hs1)⟩
theorem rblanks_any(n:Nat) w (hn:n≤1099511627776):
 Calls prog 92 #[Iq n] w fun e w'=>e=.returned (.string ⟨(List.replicate n 32).toArray⟩)∧w'=w:=by
 go_enter func92,ntmps92;go_wp2;go_loop[3,4] (fun t i=>∃k:Nat,k≤n∧i=Iq k∧∃Y,t=.string ⟨Y⟩∧Hid (Y=(List.replicate k 32).toArray)∧Y.size=k) (fun _ i=>n-(intOf i).toNat);case atStart=>exact⟨0,Nat.zero_le _,rfl,_,rfl,rfl,rfl⟩
 case round=>
  obtain⟨k,hk,rfl,Y,rfl,HY,hY⟩:=hrel;by_cases hlt:k<n
  ·have hlt':(k:Int)<(n:Int):=by omega
   go_wp2;go_round;case rel=>
    refine⟨k+1,by omega,by go_num,_,rfl,?_,?_⟩;·show _=_;rw[HY.out];simp[List.replicate_succ']
    ·simp[hY]
   case measure=>simp[intOf];omega
  ·have hlt':¬(k:Int)<(n:Int):=by omega
   obtain rfl:k=n:=by omega
   go_wp2;go_ret;rw[HY.out];exact⟨rfl,rfl⟩
theorem rtext_any l  v  w (hcl:Cls w v l)(hlen:l.length≤1099511627776)(hj:(joined l).length≤70368744177664):
 Calls prog 91 #[v] w fun e w'=>e=.returned (.string ⟨(joined l).toArray⟩)∧w'=w:=by
 obtain⟨a,cap,rfl,hh⟩:=hcl;have HJT:=qH<|fun k=>joined_take_le l k;go_enter func91,ntmps91;go_wp2;go_loop[3,4] (fun t i=>∃k:Nat,k≤l.length∧i=Iq k∧t=.string ⟨(joined (l.take k)).toArray⟩) (fun _ i=>l.length-(intOf i).toNat);case atStart=>exact⟨0,Nat.zero_le _,rfl,rfl⟩
 case round=>
  obtain⟨k,hk,rfl,rfl⟩:=hrel;by_cases hlt:k<l.length
  ·have hlt':(k:Int)<(l.length:Int):=by omega
   have hne:l≠[]:=fun e=>by rw[e]at hlt;simp at hlt
   obtain⟨b,off,rfl,hb,hc⟩:=hh.resolve_left hne;obtain⟨T,V,hTV⟩:∃T V,l[k]=(T,V):=⟨_,_,rfl⟩;have c0:w.cell? ⟨b,off+k*2,none⟩=some (.string ⟨T.toArray⟩):=by have:=(hc k hlt).1;rw[hTV]at this;exact this
   have HS:Hid (joined (l.take (k+1))=joined (l.take k)++T):=by show _=_;rw[joined_snoc l k hlt,hTV]
   have hj1:=HJT (k+1);rw[HS.out,List.length_append]at hj1;obtain⟨Y,hY⟩:=nmd (joined (l.take k));rw[hY]at HS hj1;rw[hY];clear hh hc hTV hne hY;go_wp2;go_round;case rel=>exact⟨k+1,by omega,by go_num,by rw[HS.out,<-str_app]⟩
   case measure=>simp[intOf];omega
  ·have hlt':¬(k:Int)<(l.length:Int):=by omega
   have HE:Hid (l.take k=l):=List.take_of_length_le (by omega);clear hh;go_wp2;go_ret;rw[HE.out];exact⟨rfl,rfl⟩
theorem rfitting_any l  v  W  w (hcl:Cls w v l)(hbd:∀c∈l,0≤c.2∧c.2≤2)(hlen:l.length≤1099511627776):
 Calls prog 90 #[v,Iq W] w fun e w'=>e=.returned (Iq (fitN l W))∧w'=w:=by
 obtain⟨a,cap,rfl,hh⟩:=hcl;have HBD:=qH<|hbd;clear hbd;go_enter func90,ntmps90;go_wp2;go_loop[5,6] (fun i x=>∃k:Nat,k≤l.length∧i=Iq k∧x=Iq (wideSum (l.take k))∧Hid (Fit l W k)) (fun i _=>l.length-(intOf i).toNat);case atStart=>exact⟨0,Nat.zero_le _,rfl,rfl,fun j hj=>by omega⟩
 case round=>
  obtain⟨k,hk,rfl,rfl,hfit⟩:=hrel;have hwb:=wideSum_bd l HBD k;by_cases hlt:k<l.length
  ·have hlt':(k:Int)<(l.length:Int):=by omega
   have hne:l≠[]:=fun e=>by rw[e]at hlt;simp at hlt
   obtain⟨b,off,rfl,hb,hc⟩:=hh.resolve_left hne;obtain⟨T,V,hTV⟩:∃T V,l[k]=(T,V):=⟨_,_,rfl⟩;have hV:=HBD l[k] (List.getElem_mem hlt);have c0:w.cell? ⟨b,off+k*2,none⟩=some (.string ⟨T.toArray⟩):=by have:=(hc k hlt).1;rw[hTV]at this;exact this
   have c1:w.cell? ⟨b,off+k*2+1,none⟩=some (Iq V):=by have:=(hc k hlt).2;rw[hTV]at this;exact this
   have HS:Hid (wideSum (l.take (k+1))=wideSum (l.take k)+V):=by show _=_;rw[wideSum_snoc l k hlt,hTV]
   have HX:Hid (tx l k=T):=by show _=_;rw[tx_at hlt,hTV]
   rw[hTV]at hV;obtain⟨X,hX⟩:=nmd (wideSum (l.take k));rw[hX]at HS hwb;rw[hX];simp only at hV;clear hh hc hTV hX hne;by_cases h10:T=[10]
   ·have HE:=qH<|fitN_stop l W k hk hfit (fun _=>.inl (by rw[HX.out,h10]));have h10':(T==[10])=true:=by rw[h10];rfl
    go_wp2;go_ret;rw[HE.out];exact⟨rfl,rfl⟩
   ·have h10':(T==[10])=false:=by simpa using h10
    by_cases hgt:X+V≤W
    ·have HF:Hid (Fit l W (k+1)):=fun j hj=>by
      by_cases e:j=k;·subst e;rw[HX.out,HS.out];exact⟨h10,by omega⟩
      ·exact hfit j (by omega)
     go_wp2;go_round;case rel=>exact⟨k+1,by omega,by go_num,by rw[HS.out],HF⟩
     case measure=>simp[intOf];omega
    ·have HE:=qH<|fitN_stop l W k hk hfit (fun _=>.inr (by rw[HS.out];omega));go_wp2;go_ret;rw[HE.out];exact⟨rfl,rfl⟩
  ·have hlt':¬(k:Int)<(l.length:Int):=by omega
   have HE:=qH<|fitN_stop l W k hk hfit (fun h=>absurd h hlt);clear hh;go_wp2;go_ret;rw[HE.out];exact⟨rfl,rfl⟩
theorem rwide_any l  v  w (hcl:Cls w v l)(hbd:∀c∈l,0≤c.2∧c.2≤2)(hlen:l.length≤1099511627776):
 Calls prog 55 #[v] w fun e w'=>e=.returned (Iq (wideSum l))∧w'=w:=by
 obtain⟨a,cap,rfl,hh⟩:=hcl;have HBD:=qH<|hbd;clear hbd;go_enter func55,ntmps55;go_wp2;go_loop[3,4] (fun t i=>∃k:Nat,k≤l.length∧i=Iq k∧t=Iq (wideSum (l.take k))) (fun _ i=>l.length-(intOf i).toNat);case atStart=>exact⟨0,Nat.zero_le _,rfl,rfl⟩
 case round=>
  obtain⟨k,hk,rfl,rfl⟩:=hrel;have hwb:=wideSum_bd l HBD k;by_cases hlt:k<l.length
  ·have hlt':(k:Int)<(l.length:Int):=by omega
   have hne:l≠[]:=fun e=>by rw[e]at hlt;simp at hlt
   obtain⟨b,off,rfl,hb,hc⟩:=hh.resolve_left hne;obtain⟨T,V,hTV⟩:∃T V,l[k]=(T,V):=⟨_,_,rfl⟩;have hV:=HBD l[k] (List.getElem_mem hlt);have c1:w.cell? ⟨b,off+k*2+1,none⟩=some (Iq V):=by have:=(hc k hlt).2;rw[hTV]at this;exact this
   have HS:Hid (wideSum (l.take (k+1))=wideSum (l.take k)+V):=by show _=_;rw[wideSum_snoc l k hlt,hTV]
   rw[hTV]at hV;obtain⟨X,hX⟩:=nmd (wideSum (l.take k));rw[hX]at HS hwb;rw[hX];simp only at hV;clear hh hc hTV hX hne;go_wp2;go_round;case rel=>exact⟨k+1,by omega,by go_num,by rw[HS.out]⟩
   case measure=>simp[intOf];omega
  ·have hlt':¬(k:Int)<(l.length:Int):=by omega
   have HE:Hid (l.take k=l):=List.take_of_length_le (by omega);clear hh;go_wp2;go_ret;rw[HE.out];exact⟨rfl,rfl⟩
theorem rcolumns_any s  w (hs:s.size≤1099511627776):
 Calls prog 29 #[.string s] w fun e w'=>e=.returned (Iq (wideSum (clus (runes s.data.toList))))∧Below w.heap.size w w':=by
 have hsl:s.data.toList.length=s.size:=by rw[Array.length_toList];rfl
 have hR:=runes_length s.data.toList;have hC:=clus_length (runes s.data.toList);rw[hsl]at hR;have hbd:=clus_wide (runes s.data.toList);have G:Hid (Calls prog 56 #[.string s] w fun e w'=>∃v,e=.returned v∧Cls w' v (clus (runes s.data.toList))∧Below w.heap.size w w'):=by refine(rClusters_any s w hs).mono ?_;rintro e w1 ⟨v,rfl,o,b⟩;exact⟨v,rfl,cls_own o,b⟩
 obtain⟨l,hl⟩:=nmd (clus (runes s.data.toList));rw[hl]at G hC hbd⊢;have HBD:=qH<|hbd;clear hl hsl hbd;go_enter func29,ntmps29;go_wp2_with fail;refine G.mono ?_;rintro e w1 ⟨v1,rfl,c1,b1⟩;have HC:=qH<|c1;clear c1 G;go_wp2_with fail;refine(rwide_any l v1 w1 HC HBD (by omega)).mono ?_;rintro e w2 ⟨rfl,rfl⟩;go_wp2;go_ret;exact⟨rfl,b1⟩
