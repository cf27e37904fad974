import Derived.Test.YtbeiapdobffpiaaGreatDoorQ38
import Derived.Test.YtbeiapdobffpiaaGreatDoorQ14
import Derived.Test.YtbeiapdobffpiaaGreatDoorQ32
set_option linter.all false
set_option maxRecDepth 100000
set_option maxHeartbeats 16000000
namespace Go.Proofs.YtbeiapdobffpiaaGreatDoor
open Go.RowKit Go.Sort Go.Proofs.Tryz
def Hr(l:List (List UInt8)):List Value:=l.map fun x=>.string ⟨x.toArray⟩
def yh(W:World)(p:Option Addr)(l:List (List UInt8)):Prop:=∃b,p=some (az b 0)/\b<W.heap.size/\∀j x,l[j]?=some x->W.cell? (az b j)=some (.string ⟨x.toArray⟩)
theorem yh.below{W W'}{p}{l}(h:yh W p l)(hb:Bt W W'):yh W' p l:=by obtain⟨b,e,h1,h2⟩:=h;exact⟨b,e,bn h1 hb.size,fun j x hx=>(bU (hb.block b h1)).trans (h2 j x hx)⟩
def Qu(w w':World)(t:List UInt8)(e:Ending):Prop:=∃p c,e=Rw (.slice p (bQ t).length c)/\yh w' p (bQ t)/\Bt w w'
theorem wV:(prog.info? 9).map (fun i=>(i.zero,i.size,i.bytes))=some (some (.string ⟨#[]⟩),1,16):=by kernel_rfl
theorem yA(s:ByteArray)  f i  :s.extract f i=⟨((s.data.toList.drop f).take (i-f)).toArray⟩:=by apply l8;rw[ByteArray.data_extract];grind
theorem kU(s:ByteArray)(w:World)(hs:s.size<=1000000):
 Cw 165 #[.string s] w fun e w'=>Qu w w' s.data.toList e:=by
 obtain⟨i0,hi,eK,fZ,iD⟩:=info_parts wV;obtain⟨n,hn⟩:=aj s.size;have hln:s.data.toList.length=n:=by rw[<-hn];rfl
 have Fy:Hid (s.data.toList.length=n/\s.size=n):=⟨hln,hn⟩;rw[hn]at hs;clear hln;go_enter func165,ntmps165;go_wp2;go_loopw[3,4,5] (fun v fv iv wr=>∃(f i:Nat) (acc:List (List UInt8)),iv=Iq (i:Int)/\fv=Iq (f:Int)/\i<=n+1/\f<=i/\acc.length<=i/\wr.ownsRow w.heap.size 9 1 v acc.length (Hr acc)/\Bt w wr/\Hid ((i<=n/\acc++bQ (s.data.toList.drop f)=bQ s.data.toList/\∀x∈(s.data.toList.drop f).take (i-f),x≠10)\/(i=n+1/\acc=bQ s.data.toList))) (fun _ _ iv _=>n+1-(intOf iv).toNat);case atStart=>exact⟨0,0,[],rfl,rfl,by omega,by omega,ai _,gM _ _ _ _,ag _ _,.inl ⟨by omega,rfl,by simp⟩⟩
 case round=>
  obtain⟨f,i,acc,rfl,rfl,BD,hfi,xM,bi,hbw,HI⟩:=hrel;by_cases hle:i<=n
  ·have zce:(i:Int)<=(n:Int):=by omega
   obtain⟨HA,Ns⟩:Hid (acc++bQ (s.data.toList.drop f)=bQ s.data.toList)/\Hid (∀x∈(s.data.toList.drop f).take (i-f),x≠10):=by rcases HI.out with⟨_,a,b⟩|⟨a,_⟩;all_goals grind
   have fT:=hbw.size;clear HI;by_cases he:i=n
   ·have e1:((i:Int)==(n:Int))=true:=by rw[he];simp
    have HE:Hid (acc++[(s.data.toList.drop f).take (i-f)]=bQ s.data.toList):=by have h1:(s.data.toList.drop f).take (i-f)=s.data.toList.drop f:=gt (by simp_all);have h2:=Ns.out;rw[h1]at h2;have h3:=HA.out;rw[paras_one _ h2]at h3;show _=_;rw[h1];exact h3
    have HIN:=qH<|he;clear he;go_wp2_with(at_builtin;refine Jc hi eK fZ iD bi hbw [.string (s.extract f i)] rfl _ _ rfl underlying135 ⟨rfl,by decide,by decide⟩ rfl rfl ⟨rfl,rfl⟩ (by omega) ?_);intro v' w1 bK hb1;have fj:w1.ownsRow w.heap.size 9 1 v' (acc++[(s.data.toList.drop f).take (i-f)]).length (Hr (acc++[(s.data.toList.drop f).take (i-f)])):=by rw[bf];unfold Hr;rw[li];rw[yA]at bK;exact bK
    clear bi hbw bK;go_wp2;go_roundw;case rel=>exact⟨i+1,i+1,acc++[(s.data.toList.drop f).take (i-f)],by go_num,by go_num,by omega,ai _,by simp;omega,fj,hb1,.inr ⟨by grind,HE⟩⟩
    grind[intOf]
   ·have hlt:i<n:=by omega
    have aK:(i:Int)<(n:Int):=by omega
    have e1:((i:Int)==(n:Int))=false:=by simp;omega
    have hsi:i<s.size:=by rw[Fy.2];exact hlt
    have HD:Hid (s.data.toList.drop i=s[i]::s.data.toList.drop (i+1)):=by
     have nt:i<s.data.toList.length:=by rw[Fy.1];exact hlt
     have:=tn nt;show _=_;rw[this];rfl
    obtain⟨b,hb⟩:=aj (s[i]);rw[hb]at HD;have HT:Hid ((s.data.toList.drop f).take (i+1-f)=(s.data.toList.drop f).take (i-f)++[b]):=by
     have h1:s.data.toList.drop f=(s.data.toList.drop f).take (i-f)++s.data.toList.drop i:=by have:=(gO (i-f) (s.data.toList.drop f)).symm;rw[tm,show f+(i-f)=i by omega]at this;exact this
     have hl:((s.data.toList.drop f).take (i-f)).length=i-f:=by rw[cX,cW,Fy.1];omega
     show _=_;conv=>lhs;rw[h1,HD.out]
     rw[List.take_append,hl,show i+1-f-(i-f)=1 by omega,gt (by rw[hl];omega)];rfl
    obtain⟨c,hcc⟩:∃z:Int,(b.toNat:Int)=z:=⟨_,rfl⟩;have hbc:(s[i].toNat:Int)=c:=by rw[hb];exact hcc
    by_cases eq:b=10
    ·have e2:(c==10)=true:=by rw[<-hcc,eq];rfl
     have HE:Hid ((acc++[(s.data.toList.drop f).take (i-f)])++bQ (s.data.toList.drop (i+1))=bQ s.data.toList):=by
      have h1:s.data.toList.drop f=(s.data.toList.drop f).take (i-f)++10::s.data.toList.drop (i+1):=by have:=(gO (i-f) (s.data.toList.drop f)).symm;rw[tm,show f+(i-f)=i by omega,HD.out,eq]at this;exact this
      have h3:=HA.out;rw[h1,pm _ _ Ns.out]at h3;show _=_;rw[cO];exact h3
     clear hb eq HD HT hcc;go_wp2_with(at_builtin;refine Jc hi eK fZ iD bi hbw [.string (s.extract f i)] rfl _ _ rfl underlying135 ⟨rfl,by decide,by decide⟩ rfl rfl ⟨rfl,rfl⟩ (by omega) ?_);intro v' w1 bK hb1;have fj:w1.ownsRow w.heap.size 9 1 v' (acc++[(s.data.toList.drop f).take (i-f)]).length (Hr (acc++[(s.data.toList.drop f).take (i-f)])):=by rw[bf];unfold Hr;rw[li];rw[yA]at bK;exact bK
     clear bi hbw bK;go_wp2;go_roundw;case rel=>exact⟨i+1,i+1,acc++[(s.data.toList.drop f).take (i-f)],by go_num,by go_num,by omega,ai _,by simp;omega,fj,hb1,.inl ⟨by omega,HE,by simp⟩⟩
     grind[intOf]
    ·have e2:(c==10)=false:=by rw[<-hcc];simp;intro q;exact eq (UInt8.toNat_inj.1 (by grind))
     have oC:Hid (∀x∈(s.data.toList.drop f).take (i+1-f),x≠10):=by
      show∀x,_;rw[HT.out];intro x hx;rcases lj.1 hx with h|h;·exact Ns x h
      ·grind
     clear hb eq HD HT hcc;go_wp2;go_roundw;case rel=>exact⟨f,i+1,acc,by go_num,rfl,by omega,by omega,by omega,bi,hbw,.inl ⟨by omega,HA,oC⟩⟩
     grind[intOf]
  ·have zce:¬(i:Int)<=(n:Int):=by omega
   obtain rfl:acc=bQ s.data.toList:=by rcases HI.out with⟨a,_⟩|⟨_,a⟩;all_goals omega
   have dL:0<(bQ s.data.toList).length:=by rw[im];omega
   obtain⟨g,al,hv,wN,lN,_⟩:∃g al,u3=Sq g (bQ s.data.toList).length al/\w.heap.size<=g/\g<wr.heap.size/\True:=by grind[cD]
   subst hv;have HST:Hid (yh wr (some (az g 0)) (bQ s.data.toList)):=⟨g,rfl,lN,fun j x hx=>by have hj:=(Bd.1 hx).1;rw[bi.cellAt j (by omega)];grind[Hr]⟩;have HB:=qH<|hbw;clear bi hbw HI;go_wp2;go_ret;exact⟨_,_,rfl,HST,HB⟩
