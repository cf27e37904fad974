import Derived.Test.YtiaimhjebnobnaaGreatDoorQ40
import Derived.Test.YtiaimhjebnobnaaGreatDoorQ32
set_option linter.all false
set_option maxRecDepth 100000
set_option maxHeartbeats 16000000
namespace Go.Proofs.YtiaimhjebnobnaaGreatDoor
open Go.RowKit Go.Sort Go.Proofs.Tryz
def Ml(l:List (List UInt8)):List Value:=l.map fun x=>.string ⟨x.toArray⟩
def B8(W:World)(p:Option Addr)(l:List (List UInt8)):Prop:=∃b,p=some (az b 0)/\b<W.heap.size/\∀j x,l[j]?=some x->W.cell? (az b j)=some (.string ⟨x.toArray⟩)
theorem B8.below{W W'}{p}{l}(h:B8 W p l)(hb:Bt W W'):B8 W' p l:=by obtain⟨b,e,h1,h2⟩:=h;exact⟨b,e,zz008 h1 hb.size,fun j x hx=>(bU (hb.block b h1)).trans (h2 j x hx)⟩
def Wr(w w':World)(t:List UInt8)(e:Ending):Prop:=∃p c,e=Rw (.slice p (bQ t).length c)/\B8 w' p (bQ t)/\Bt w w'
theorem Ec  t  :(bQ t).length<=t.length+1:=by grind[iG]
theorem ug:(prog.info? 9).map (fun i=>(i.zero,i.size,i.bytes))=some (some (.string ⟨#[]⟩),1,16):=by kernel_rfl
theorem Cy(s:ByteArray)  f i  :s.extract f i=⟨((s.data.toList.drop f).take (i-f)).toArray⟩:=by apply nh;rw[ByteArray.data_extract];grind
theorem jK(s:ByteArray)(w:World)(hs:s.size<=1000000):
 Cw 46 #[.string s] w fun e w'=>Wr w w' s.data.toList e:=by
 obtain⟨i0,hi,eG,fs,gd⟩:=info_parts ug;obtain⟨n,hn⟩:=ag s.size;have hln:s.data.toList.length=n:=by rw[<-hn];rfl
 have Fl:Hid (s.data.toList.length=n/\s.size=n):=⟨hln,hn⟩;rw[hn]at hs;clear hln;go_enter func46,ntmps46;go_wp2;go_loopw[3,4,5] (fun v fv iv wr=>∃(f i:Nat) (acc:List (List UInt8)),iv=Iq (i:Int)/\fv=Iq (f:Int)/\i<=n+1/\f<=i/\acc.length<=i/\wr.ownsRow w.heap.size 9 1 v acc.length (Ml acc)/\Bt w wr/\Hid ((i<=n/\acc++bQ (s.data.toList.drop f)=bQ s.data.toList/\∀x∈(s.data.toList.drop f).take (i-f),x≠10)\/(i=n+1/\acc=bQ s.data.toList))) (fun _ _ iv _=>n+1-(intOf iv).toNat);case atStart=>exact⟨0,0,[],rfl,rfl,by omega,by omega,ai _,gF _ _ _ _,aj _ _,.inl ⟨by omega,rfl,by simp⟩⟩
 case round=>
  obtain⟨f,i,acc,rfl,rfl,BE,hfi,tC,bu,hbw,HI⟩:=hrel;by_cases hle:i<=n
  ·have zic:(i:Int)<=(n:Int):=by omega
   obtain⟨HA,Tg⟩:Hid (acc++bQ (s.data.toList.drop f)=bQ s.data.toList)/\Hid (∀x∈(s.data.toList.drop f).take (i-f),x≠10):=by rcases HI.out with⟨_,a,b⟩|⟨a,_⟩;all_goals grind
   have f_:=hbw.size;clear HI;by_cases he:i=n
   ·have e1:((i:Int)==(n:Int))=true:=by rw[he];simp
    have HE:Hid (acc++[(s.data.toList.drop f).take (i-f)]=bQ s.data.toList):=by have h1:(s.data.toList.drop f).take (i-f)=s.data.toList.drop f:=gV (by simp_all);have h2:=Tg.out;rw[h1]at h2;have h3:=HA.out;rw[paras_one _ h2]at h3;show _=_;rw[h1];exact h3
    have HIN:=qH<|he;clear he;go_wp2_with(at_builtin;refine MB hi eG fs gd bu hbw [.string (s.extract f i)] rfl _ _ rfl underlying78 ⟨rfl,by decide,by decide⟩ rfl rfl ⟨rfl,rfl⟩ (by omega) ?_);intro v' w1 bD hb1;have gq:w1.ownsRow w.heap.size 9 1 v' (acc++[(s.data.toList.drop f).take (i-f)]).length (Ml (acc++[(s.data.toList.drop f).take (i-f)])):=by rw[bm];unfold Ml;rw[np];rw[Cy]at bD;exact bD
    clear bu hbw bD;go_wp2;go_roundw;case rel=>exact⟨i+1,i+1,acc++[(s.data.toList.drop f).take (i-f)],by go_num,by go_num,by omega,ai _,by simp;omega,gq,hb1,.inr ⟨by grind,HE⟩⟩
    grind[intOf]
   ·have hlt:i<n:=by omega
    have aN:(i:Int)<(n:Int):=by omega
    have e1:((i:Int)==(n:Int))=false:=by simp;omega
    have hsi:i<s.size:=by rw[Fl.2];exact hlt
    have HD:Hid (s.data.toList.drop i=s[i]::s.data.toList.drop (i+1)):=by
     have pW:i<s.data.toList.length:=by rw[Fl.1];exact hlt
     have:=wY pW;show _=_;rw[this];rfl
    obtain⟨b,hb⟩:=ag (s[i]);rw[hb]at HD;have HT:Hid ((s.data.toList.drop f).take (i+1-f)=(s.data.toList.drop f).take (i-f)++[b]):=by
     have h1:s.data.toList.drop f=(s.data.toList.drop f).take (i-f)++s.data.toList.drop i:=by have:=(gU (i-f) (s.data.toList.drop f)).symm;rw[xd,show f+(i-f)=i by omega]at this;exact this
     have hl:((s.data.toList.drop f).take (i-f)).length=i-f:=by rw[cX,dq,Fl.1];omega
     show _=_;conv=>lhs;rw[h1,HD.out]
     rw[List.take_append,hl,show i+1-f-(i-f)=1 by omega,gV (by rw[hl];omega)];rfl
    obtain⟨c,hcc⟩:∃z:Int,(b.toNat:Int)=z:=⟨_,rfl⟩;have hbc:(s[i].toNat:Int)=c:=by rw[hb];exact hcc
    by_cases dI:b=10
    ·have e2:(c==10)=true:=by rw[<-hcc,dI];rfl
     have HE:Hid ((acc++[(s.data.toList.drop f).take (i-f)])++bQ (s.data.toList.drop (i+1))=bQ s.data.toList):=by
      have h1:s.data.toList.drop f=(s.data.toList.drop f).take (i-f)++10::s.data.toList.drop (i+1):=by have:=(gU (i-f) (s.data.toList.drop f)).symm;rw[xd,show f+(i-f)=i by omega,HD.out,dI]at this;exact this
      have h3:=HA.out;rw[h1,rM _ _ Tg.out]at h3;show _=_;rw[dt];exact h3
     clear hb dI HD HT hcc;go_wp2_with(at_builtin;refine MB hi eG fs gd bu hbw [.string (s.extract f i)] rfl _ _ rfl underlying78 ⟨rfl,by decide,by decide⟩ rfl rfl ⟨rfl,rfl⟩ (by omega) ?_);intro v' w1 bD hb1;have gq:w1.ownsRow w.heap.size 9 1 v' (acc++[(s.data.toList.drop f).take (i-f)]).length (Ml (acc++[(s.data.toList.drop f).take (i-f)])):=by rw[bm];unfold Ml;rw[np];rw[Cy]at bD;exact bD
     clear bu hbw bD;go_wp2;go_roundw;case rel=>exact⟨i+1,i+1,acc++[(s.data.toList.drop f).take (i-f)],by go_num,by go_num,by omega,ai _,by simp;omega,gq,hb1,.inl ⟨by omega,HE,by simp⟩⟩
     grind[intOf]
    ·have e2:(c==10)=false:=by rw[<-hcc];simp;intro q;exact dI (UInt8.toNat_inj.1 (by grind))
     have HN2:Hid (∀x∈(s.data.toList.drop f).take (i+1-f),x≠10):=by
      show∀x,_;rw[HT.out];intro x hx;rcases jW.1 hx with h|h;·exact Tg x h
      ·grind
     clear hb dI HD HT hcc;go_wp2;go_roundw;case rel=>exact⟨f,i+1,acc,by go_num,rfl,by omega,by omega,by omega,bu,hbw,.inl ⟨by omega,HA,HN2⟩⟩
     grind[intOf]
  ·have zic:¬(i:Int)<=(n:Int):=by omega
   obtain rfl:acc=bQ s.data.toList:=by rcases HI.out with⟨a,_⟩|⟨_,a⟩;all_goals omega
   have fZ:0<(bQ s.data.toList).length:=by rw[iG];omega
   obtain⟨g,cap,hv,sw,kU,_⟩:∃g cap,u3=Sq g (bQ s.data.toList).length cap/\w.heap.size<=g/\g<wr.heap.size/\True:=by grind[dK]
   subst hv;have HST:Hid (B8 wr (some (az g 0)) (bQ s.data.toList)):=⟨g,rfl,kU,fun j x hx=>by have hj:=(qM.1 hx).1;rw[bu.cellAt j (by omega)];grind[Ml]⟩;have HB:=qH<|hbw;clear bu hbw HI;go_wp2;go_ret;exact⟨_,_,rfl,HST,HB⟩
