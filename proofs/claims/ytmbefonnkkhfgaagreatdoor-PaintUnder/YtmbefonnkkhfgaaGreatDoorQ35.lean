import Derived.Test.YtmbefonnkkhfgaaGreatDoorQ34
import Derived.BigQuiet
import Derived.Deep.QuietTactic
import Derived.Test.YtmbefonnkkhfgaaGreatDoorQ00
import Derived.Test.YtmbefonnkkhfgaaGreatDoorQ24
set_option linter.unusedVariables false
set_option maxRecDepth 100000
set_option maxHeartbeats 16000000
namespace Go.Proofs.YtmbefonnkkhfgaaGreatDoor
section
open Go.RowKit
def Cls(w:World)(v:Value)(l:List (List UInt8×Int)):Prop:=
 ∃a cap,v=.slice a l.length cap∧(l=[]∨∃b off,a=some ⟨b,off,none⟩∧b<w.heap.size∧∀j (hj:j<l.length),w.cell? ⟨b,off+j*2,none⟩=some (.string ⟨(l[j]).1.toArray⟩)∧w.cell? ⟨b,off+j*2+1,none⟩=some (Iq (l[j]).2))
theorem Cls.below{w w':World}{v:Value}{l:List (List UInt8×Int)}(h:Cls w v l)(hb:Below w.heap.size w w'):Cls w' v l:=by
 obtain⟨a,cap,rfl,hh⟩:=h;refine⟨a,cap,rfl,?_⟩;rcases hh with rfl|⟨b,off,rfl,hl,hc⟩;·exact .inl rfl
 ·exact .inr ⟨b,off,rfl,Nat.lt_of_lt_of_le hl hb.size,fun j hj=>⟨(hb.cell (p:=⟨b,off+j*2,none⟩) hl).trans (hc j hj).1,(hb.cell (p:=⟨b,off+j*2+1,none⟩) hl).trans (hc j hj).2⟩⟩
theorem cCells_length(l:List (List UInt8×Int)):(cCells l).length=l.length*2:=by
 induction l with
 |nil=>rfl
 |cons c l ih=>simp only[cCells,List.flatMap_cons,List.length_append,List.length_cons,List.length_nil]at*;omega
theorem cCells_at(l:List (List UInt8×Int))(j:Nat)(hj:j<l.length):(cCells l)[j*2]?=some (.string ⟨(l[j]).1.toArray⟩)∧(cCells l)[j*2+1]?=some (Iq (l[j]).2):=by
 induction l generalizing j with
 |nil=>simp at hj
 |cons c l ih=>
  have e:cCells (c::l)=.string ⟨c.1.toArray⟩::Iq c.2::cCells l:=rfl;cases j with
  |zero=>rw[e];simp
  |succ j=>have:=ih j (by simpa using hj);rw[e,show(j+1)*2=j*2+1+1 by omega];simpa using this
theorem cls_own{w:World}{B n:Nat}{e:TypeId}{v:Value}{l:List (List UInt8×Int)}(h:w.ownsRow B e 2 v n (cCells l)):Cls w v l:=by
 have hl:l.length=n:=by have:=h.1;rw[cCells_length]at this;omega
 rcases h.2 with⟨rfl,rfl⟩|⟨g,cap,cur,rfl,_,hg,_⟩;·have hz:=List.length_eq_zero_iff.1 hl;subst hz;exact⟨none,0,rfl,.inl rfl⟩
 ·refine⟨some ⟨g,0,none⟩,cap,by rw[hl],.inr ⟨g,0,rfl,(Array.getElem?_eq_some_iff.1 hg).1,fun j hj=>?_⟩⟩;have c:=cCells_at l j hj;have a0:=h.cells (g:=g) rfl (j*2) _ c.1;have a1:=h.cells (g:=g) rfl (j*2+1) _ c.2;have e0:(⟨g,0,none⟩:Addr).add (j*2)=⟨g,0+j*2,none⟩:=by unfold Addr.add;split<;>simp_all
  have e1:(⟨g,0,none⟩:Addr).add (j*2+1)=⟨g,0+j*2+1,none⟩:=by unfold Addr.add;split<;>simp_all
  rw[e0]at a0;rw[e1]at a1;exact⟨a0,a1⟩
end
section
open Go.RowKit Go.Proofs.Tryz
theorem fitting_any(l:List (List UInt8×Int))(v:Value)(W:Int)(w:World)(hcl:Cls w v l)(hbd:∀c∈l,0≤c.2∧c.2≤2)(hlen:l.length≤1099511627776)(hW0:-9223372036854775808≤W)(hW1:W≤9223372036854775807):
 Calls prog 156 #[v,Iq W] w fun e w'=>e=.returned (Iq (fitN l W))∧Below w.heap.size w w':=by
 obtain⟨a,cap,rfl,hh⟩:=hcl;have HBD:=qH<|hbd;clear hbd;go_enter func156,ntmps156;go_wp2;go_loopw[1,9] (fun x i wr=>∃k:Nat,k≤l.length∧i=Iq k∧x=Iq (W-wideSum (l.take k))∧Hid (Fit l W k)∧Below w.heap.size w wr) (fun _ i _=>l.length-(intOf i).toNat);case atStart=>exact⟨0,Nat.zero_le _,rfl,by simp[wideSum],fun j hj=>by omega,Below.refl _ _⟩
 case round=>
  obtain⟨k,hk,rfl,rfl,hfit,hbw⟩:=hrel;have hwb:=wideSum_bd l HBD k;have hwW:k=0∨wideSum (l.take k)≤W:=by
   cases k with
   |zero=>exact .inl rfl
   |succ k=>exact .inr (hfit k (by omega)).2
  have hw0:k=0->wideSum (l.take k)=0:=fun e=>by subst e;rfl
  have hsz:=hbw.size;by_cases hlt:k<l.length
  ·have hlt':(k:Int)<(l.length:Int):=by omega
   have hne:l≠[]:=fun e=>by rw[e]at hlt;simp at hlt
   obtain⟨b,off,rfl,hb,hc⟩:=hh.resolve_left hne;obtain⟨T,V,hTV⟩:∃T V,l[k]=(T,V):=⟨_,_,rfl⟩;have hV:=HBD l[k] (List.getElem_mem hlt);have c0:wr.cell? ⟨b,off+k*2,none⟩=some (.string ⟨T.toArray⟩):=by have:=(hc k hlt).1;rw[hTV]at this;exact(hbw.cell (p:=⟨b,off+k*2,none⟩) hb).trans this
   have c1:wr.cell? ⟨b,off+k*2+1,none⟩=some (Iq V):=by have:=(hc k hlt).2;rw[hTV]at this;exact(hbw.cell (p:=⟨b,off+k*2+1,none⟩) hb).trans this
   have HS:Hid (wideSum (l.take (k+1))=wideSum (l.take k)+V):=by show _=_;rw[wideSum_snoc l k hlt,hTV]
   have HX:Hid (tx l k=T):=by show _=_;rw[tx_at hlt,hTV]
   rw[hTV]at hV;obtain⟨X,hX⟩:=nmd (wideSum (l.take k));rw[hX]at HS hwb hwW hw0;rw[hX];simp only at hV;have hr0:-9223372036854775808≤W-X:=by omega
   have hr1:W-X≤9223372036854775807:=by omega
   clear hh hc hTV hX hne;by_cases h10:T=[10]
   ·have HE:=qH<|fitN_stop l W k hk hfit (fun _=>.inl (by rw[HX.out,h10]));have h10':(T==[10])=true:=by rw[h10];rfl
    go_wp2;go_ret;rw[HE.out];exact⟨rfl,hbw.alloc hsz _⟩
   ·have h10':(T==[10])=false:=by simpa using h10
    by_cases hgt:W-X<V;·have HE:=qH<|fitN_stop l W k hk hfit (fun _=>.inr (by rw[HS.out];omega));go_wp2;go_ret;rw[HE.out];exact⟨rfl,hbw.alloc hsz _⟩
    ·have HF:Hid (Fit l W (k+1)):=fun j hj=>by
      by_cases e:j=k;·subst e;rw[HX.out,HS.out];exact⟨h10,by omega⟩
      ·exact hfit j (by omega)
     go_wp2;go_roundw;case rel=>exact⟨k+1,by omega,by go_num,by rw[HS.out];congr 1;omega,HF,hbw.alloc hsz _⟩
     case measure=>simp[intOf];omega
  ·have hlt':¬(k:Int)<(l.length:Int):=by omega
   have HE:=qH<|fitN_stop l W k hk hfit (fun h=>absurd h hlt);have hkl:k=l.length:=by omega
   clear hh;go_wp2;go_ret;rw[HE.out];exact⟨by rw[hkl];rfl,hbw⟩
theorem lastBlank_any(l:List (List UInt8×Int))(v:Value)(w:World)(hcl:Cls w v l)(hlen:l.length≤1099511627776):
 Calls prog 187 #[v] w fun e w'=>e=.returned (Iq (lastB l l.length))∧Below w.heap.size w w':=by
 obtain⟨a,cap,rfl,hh⟩:=hcl;go_enter func187,ntmps187;go_wp2;go_loopw[3] (fun i wr=>∃k:Nat,k≤l.length∧i=Iq ((k:Int)-1)∧Hid (lastB l l.length=lastB l k)∧Below w.heap.size w wr) (fun i _=>(intOf i+1).toNat);case atStart=>exact⟨l.length,Nat.le_refl _,rfl,rfl,Below.refl _ _⟩
 case round=>
  obtain⟨k,hk,rfl,hE,hbw⟩:=hrel;have hsz:=hbw.size;cases k with
  |zero=>clear hh;go_wp2;go_ret;rw[hE.out];exact⟨rfl,hbw⟩
  |succ k=>
   have hlt:k<l.length:=by omega
   have hne:l≠[]:=fun e=>by rw[e]at hlt;simp at hlt
   obtain⟨b,off,rfl,hb,hc⟩:=hh.resolve_left hne;obtain⟨T,V,hTV⟩:∃T V,l[k]=(T,V):=⟨_,_,rfl⟩;have c0:wr.cell? ⟨b,off+k*2,none⟩=some (.string ⟨T.toArray⟩):=by have:=(hc k hlt).1;rw[hTV]at this;exact(hbw.cell (p:=⟨b,off+k*2,none⟩) hb).trans this
   have HX:Hid (tx l k=T):=by show _=_;rw[tx_at hlt,hTV]
   have hki:((k+1:Nat):Int)-1=(k:Int):=by omega
   rw[hki];clear hh hc hTV hne;by_cases h32:T=[32]
   ·have HE:Hid (lastB l l.length=k):=by show _=_;rw[hE.out];simp only[lastB];rw[if_pos (by rw[HX.out,h32])]
    have h32':(T==[32])=true:=by rw[h32];rfl
    go_wp2;go_ret;rw[HE.out];exact⟨rfl,hbw⟩
   ·have h32':(T==[32])=false:=by simpa using h32
    have HE:Hid (lastB l l.length=lastB l k):=by show _=_;rw[hE.out];simp only[lastB];rw[if_neg (by rw[HX.out];exact h32)]
    go_wp2;go_roundw;case rel=>exact⟨k,by omega,by go_num,HE,hbw⟩
    case measure=>simp[intOf]
end
section
open Go.RowKit Go.Proofs.Tryz
theorem columns_any(s:ByteArray)(w:World)(ht:TabAt w)(hs:s.size≤1099511627776):
 Calls prog 131 #[.string s] w fun e w'=>e=.returned (Iq (wideSum (clus (runes s.data.toList))))∧Below w.heap.size w w':=by
 have hsl:s.data.toList.length=s.size:=by rw[Array.length_toList];rfl
 have hR:=runes_length s.data.toList;have hC:=clus_length (runes s.data.toList);rw[hsl]at hR;have hbd:=clus_wide (runes s.data.toList);have G:Hid (Calls prog 9 #[.string s] w fun e w'=>∃v,e=.returned v∧Cls w' v (clus (runes s.data.toList))∧Below w.heap.size w w'):=by refine(gClusters_any s w ht hs).mono ?_;rintro e w1 ⟨v,rfl,o,b⟩;exact⟨v,rfl,cls_own o,b⟩
 obtain⟨l,hl⟩:=nmd (clus (runes s.data.toList));rw[hl]at G hC hbd;have HL:=qH<|hl;have HBD:=qH<|hbd;clear hl hsl ht hbd;go_enter func131,ntmps131;go_wp2_with fail;refine G.mono ?_;rintro e w1 ⟨v1,rfl,⟨a,cap,rfl,hh⟩,b1⟩;have hs1:=b1.size;clear G;go_wp2;go_loopw[3,9] (fun t i wr=>∃k:Nat,k≤l.length∧i=Iq k∧t=Iq (wideSum (l.take k))∧Below w1.heap.size w1 wr) (fun _ i _=>l.length-(intOf i).toNat);case atStart=>exact⟨0,Nat.zero_le _,rfl,rfl,Below.refl _ _⟩
 case round=>
  obtain⟨k,hk,rfl,rfl,hbw⟩:=hrel;have hwb:=wideSum_bd l HBD k;have hsz:=hbw.size;by_cases hlt:k<l.length
  ·have hlt':(k:Int)<(l.length:Int):=by omega
   have hne:l≠[]:=fun e=>by rw[e]at hlt;simp at hlt
   obtain⟨b,off,rfl,hb,hc⟩:=hh.resolve_left hne;obtain⟨T,W,hTW⟩:∃T W,l[k]=(T,W):=⟨_,_,rfl⟩;have hW:=HBD l[k] (List.getElem_mem hlt);have c0:wr.cell? ⟨b,off+k*2,none⟩=some (.string ⟨T.toArray⟩):=by have:=(hc k hlt).1;rw[hTW]at this;exact(hbw.cell (p:=⟨b,off+k*2,none⟩) hb).trans this
   have c1:wr.cell? ⟨b,off+k*2+1,none⟩=some (Iq W):=by have:=(hc k hlt).2;rw[hTW]at this;exact(hbw.cell (p:=⟨b,off+k*2+1,none⟩) hb).trans this
   have HS:Hid (wideSum (l.take (k+1))=wideSum (l.take k)+W):=by show _=_;rw[wideSum_snoc l k hlt,hTW]
   rw[hTW]at hW;obtain⟨X,hX⟩:=nmd (wideSum (l.take k));rw[hX]at HS hwb;rw[hX];simp only at hW;clear hh hc hTW hX hne;go_wp2;go_roundw;case rel=>exact⟨k+1,by omega,by go_num,by rw[HS.out],hbw.alloc hsz _⟩
   case measure=>simp[intOf];omega
  ·have hlt':¬(k:Int)<(l.length:Int):=by omega
   have HE:Hid (l.take k=l):=List.take_of_length_le (by omega);clear hh;go_wp2;go_ret;rw[HL.out,HE.out];exact⟨rfl,b1.trans (hbw.mono hs1)⟩
end
end Go.Proofs.YtmbefonnkkhfgaaGreatDoor
