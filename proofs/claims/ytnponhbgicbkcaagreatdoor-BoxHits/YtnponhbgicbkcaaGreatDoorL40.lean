import Derived.Test.YtnponhbgicbkcaaGreatDoorL37
import Derived.Test.YtnponhbgicbkcaaGreatDoorL14
import Derived.Test.YtnponhbgicbkcaaGreatDoorL31
set_option linter.unusedVariables false
set_option maxRecDepth 100000
set_option maxHeartbeats 16000000
namespace Go.Proofs.YtnponhbgicbkcaaGreatDoor
section
open Go.RowKit Go.Sort Go.Proofs.Tryz
def strC(l:List (List UInt8)):List Value:=l.map fun x=>.string ⟨x.toArray⟩
def StrAt(W:World)(p:Option Addr)(l:List (List UInt8)):Prop:=∃b,p=some ⟨b,0,none⟩∧b<W.heap.size∧∀j x,l[j]?=some x->W.cell? ⟨b,j,none⟩=some (.string ⟨x.toArray⟩)
theorem StrAt.below{W W'}{p}{l}(h:StrAt W p l)(hb:Below W.heap.size W W'):StrAt W' p l:=by obtain⟨b,e,h1,h2⟩:=h;exact⟨b,e,Nat.lt_of_lt_of_le h1 hb.size,fun j x hx=>(World.cell?_of_block (hb.block b h1)).trans (h2 j x hx)⟩
def PgOut(w w':World)(t:List UInt8)(e:Ending):Prop:=∃p c,e=.returned (.slice p (paras t).length c)∧StrAt w' p (paras t)∧Below w.heap.size w w'
theorem infoStr:(prog.info? 9).map (fun i=>(i.zero,i.size,i.bytes))=some (some (.string ⟨#[]⟩),1,16):=by kernel_rfl
theorem ext_list(s:ByteArray) f i :s.extract f i=⟨((s.data.toList.drop f).take (i-f)).toArray⟩:=by apply ByteArray.ext;rw[ByteArray.data_extract];apply Array.ext';simp[List.take_drop]
theorem paragraphs_any s  w (hs:s.size≤1000000):
 Calls prog 27 #[.string s] w fun e w'=>PgOut w w' s.data.toList e:=by
 obtain⟨i0,hi,hz0,hz1,hz2⟩:=info_parts infoStr;obtain⟨n,hn⟩:=nmd s.size;have hln:s.data.toList.length=n:=by rw[<-hn];rfl
 have HLN:Hid (s.data.toList.length=n∧s.size=n):=⟨hln,hn⟩;rw[hn]at hs;clear hln;go_enter func27,ntmps27;go_wp2;go_loopw[3,4,5] (fun v fv iv wr=>∃(f i:Nat) (acc:List (List UInt8)),iv=Iq (i:Int)∧fv=Iq (f:Int)∧i≤n+1∧f≤i∧acc.length≤i∧wr.ownsRow w.heap.size 9 1 v acc.length (strC acc)∧Below w.heap.size w wr∧Hid ((i≤n∧acc++paras (s.data.toList.drop f)=paras s.data.toList∧∀x∈(s.data.toList.drop f).take (i-f),x≠10)∨(i=n+1∧acc=paras s.data.toList))) (fun _ _ iv _=>n+1-(intOf iv).toNat);case atStart=>exact⟨0,0,[],rfl,rfl,by omega,by omega,Nat.le_refl _,World.ownsRow_nil _ _ _ _,Below.refl _ _,.inl ⟨by omega,rfl,by simp⟩⟩
 case round=>
  obtain⟨f,i,acc,rfl,rfl,hi1,hfi,hal,hown,hbw,HI⟩:=hrel;by_cases hle:i≤n
  ·have hle':(i:Int)≤(n:Int):=by omega
   obtain⟨HA,HNo⟩:Hid (acc++paras (s.data.toList.drop f)=paras s.data.toList)∧Hid (∀x∈(s.data.toList.drop f).take (i-f),x≠10):=by
    rcases HI.out with⟨_,a,b⟩|⟨a,_⟩;·exact⟨a,b⟩
    ·omega
   have hsz:=hbw.size;clear HI;by_cases he:i=n
   ·have e1:((i:Int)==(n:Int))=true:=by rw[he];simp
    have HE:Hid (acc++[(s.data.toList.drop f).take (i-f)]=paras s.data.toList):=by have h1:(s.data.toList.drop f).take (i-f)=s.data.toList.drop f:=List.take_of_length_le (by rw[List.length_drop,HLN.1];omega);have h2:=HNo.out;rw[h1]at h2;have h3:=HA.out;rw[paras_one _ h2]at h3;show _=_;rw[h1];exact h3
    have HIN:=qH<|he;clear he;go_wp2_with(at_builtin;refine ap1 hi hz0 hz1 hz2 hown hbw [.string (s.extract f i)] rfl _ _ rfl underlying78 ⟨rfl,by decide,by decide⟩ rfl rfl ⟨rfl,rfl⟩ (by omega) ?_);intro v' w1 hown' hb1;have hown2:w1.ownsRow w.heap.size 9 1 v' (acc++[(s.data.toList.drop f).take (i-f)]).length (strC (acc++[(s.data.toList.drop f).take (i-f)])):=by rw[List.length_append];unfold strC;rw[List.map_append];rw[ext_list]at hown';exact hown'
    clear hown hbw hown';go_wp2;go_roundw;case rel=>exact⟨i+1,i+1,acc++[(s.data.toList.drop f).take (i-f)],by go_num,by go_num,by omega,Nat.le_refl _,by simp;omega,hown2,hb1,.inr ⟨by have:=HIN.out;omega,HE⟩⟩
    case measure=>simp[intOf];omega
   ·have hlt:i<n:=by omega
    have hlt':(i:Int)<(n:Int):=by omega
    have e1:((i:Int)==(n:Int))=false:=by simp;omega
    have hsi:i<s.size:=by rw[HLN.2];exact hlt
    have HD:Hid (s.data.toList.drop i=s[i]::s.data.toList.drop (i+1)):=by
     have hi2:i<s.data.toList.length:=by rw[HLN.1];exact hlt
     have:=List.drop_eq_getElem_cons hi2;show _=_;rw[this];rfl
    obtain⟨b,hb⟩:=nmd (s[i]);rw[hb]at HD;have HT:Hid ((s.data.toList.drop f).take (i+1-f)=(s.data.toList.drop f).take (i-f)++[b]):=by
     have h1:s.data.toList.drop f=(s.data.toList.drop f).take (i-f)++s.data.toList.drop i:=by have:=(List.take_append_drop (i-f) (s.data.toList.drop f)).symm;rw[List.drop_drop,show f+(i-f)=i by omega]at this;exact this
     have hl:((s.data.toList.drop f).take (i-f)).length=i-f:=by rw[List.length_take,List.length_drop,HLN.1];omega
     show _=_;conv=>lhs;rw[h1,HD.out]
     rw[List.take_append,hl,show i+1-f-(i-f)=1 by omega,List.take_of_length_le (by rw[hl];omega)];rfl
    obtain⟨c,hcc⟩:∃z:Int,(b.toNat:Int)=z:=⟨_,rfl⟩;have hbc:(s[i].toNat:Int)=c:=by rw[hb];exact hcc
    by_cases h10:b=10
    ·have e2:(c==10)=true:=by rw[<-hcc,h10];rfl
     have HE:Hid ((acc++[(s.data.toList.drop f).take (i-f)])++paras (s.data.toList.drop (i+1))=paras s.data.toList):=by
      have h1:s.data.toList.drop f=(s.data.toList.drop f).take (i-f)++10::s.data.toList.drop (i+1):=by have:=(List.take_append_drop (i-f) (s.data.toList.drop f)).symm;rw[List.drop_drop,show f+(i-f)=i by omega,HD.out,h10]at this;exact this
      have h3:=HA.out;rw[h1,paras_app _ _ HNo.out]at h3;show _=_;rw[List.append_assoc];exact h3
     clear hb h10 HD HT hcc;go_wp2_with(at_builtin;refine ap1 hi hz0 hz1 hz2 hown hbw [.string (s.extract f i)] rfl _ _ rfl underlying78 ⟨rfl,by decide,by decide⟩ rfl rfl ⟨rfl,rfl⟩ (by omega) ?_);intro v' w1 hown' hb1;have hown2:w1.ownsRow w.heap.size 9 1 v' (acc++[(s.data.toList.drop f).take (i-f)]).length (strC (acc++[(s.data.toList.drop f).take (i-f)])):=by rw[List.length_append];unfold strC;rw[List.map_append];rw[ext_list]at hown';exact hown'
     clear hown hbw hown';go_wp2;go_roundw;case rel=>exact⟨i+1,i+1,acc++[(s.data.toList.drop f).take (i-f)],by go_num,by go_num,by omega,Nat.le_refl _,by simp;omega,hown2,hb1,.inl ⟨by omega,HE,by simp⟩⟩
     case measure=>simp[intOf];omega
    ·have e2:(c==10)=false:=by rw[<-hcc];simp;intro q;exact h10 (UInt8.toNat_inj.1 (by simpa using(Int.ofNat.inj q)))
     have HN2:Hid (∀x∈(s.data.toList.drop f).take (i+1-f),x≠10):=by
      show∀x,_;rw[HT.out];intro x hx;rcases List.mem_append.1 hx with h|h;·exact HNo x h
      ·rw[List.mem_singleton.1 h];exact h10
     clear hb h10 HD HT hcc;go_wp2;go_roundw;case rel=>exact⟨f,i+1,acc,by go_num,rfl,by omega,by omega,by omega,hown,hbw,.inl ⟨by omega,HA,HN2⟩⟩
     case measure=>simp[intOf];omega
  ·have hle':¬(i:Int)≤(n:Int):=by omega
   obtain rfl:acc=paras s.data.toList:=by
    rcases HI.out with⟨a,_⟩|⟨_,a⟩;·omega
    ·exact a
   have hpos:0<(paras s.data.toList).length:=by rw[paras_len];omega
   obtain⟨g,cap,hv,hg1,hg2,_⟩:∃g cap,u3=Sq g (paras s.data.toList).length cap∧w.heap.size≤g∧g<wr.heap.size∧True:=by
    rcases own_form hown with⟨_,h0⟩|⟨g,cap,e,a,b,_⟩;·omega
    ·exact⟨g,cap,e,a,b,trivial⟩
   subst hv;have HST:Hid (StrAt wr (some ⟨g,0,none⟩) (paras s.data.toList)):=⟨g,rfl,hg2,fun j x hx=>by have hj:=(List.getElem?_eq_some_iff.1 hx).1;rw[hown.cellAt j (by omega)];unfold strC;rw[List.getElem?_map,hx];rfl⟩;have HB:=qH<|hbw;clear hown hbw HI;go_wp2;go_ret;exact⟨_,_,rfl,HST,HB⟩
