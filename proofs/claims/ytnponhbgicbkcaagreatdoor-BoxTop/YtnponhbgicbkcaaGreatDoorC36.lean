import Derived.Test.YtnponhbgicbkcaaGreatDoorC35
import Derived.BigQuiet
import Derived.Deep.QuietTactic
import Derived.Test.YtnponhbgicbkcaaGreatDoorC24
set_option linter.unusedVariables false
set_option maxRecDepth 100000
set_option maxHeartbeats 16000000
namespace Go.Proofs.YtnponhbgicbkcaaGreatDoor
section
open Go.RowKit
def Cls(w:World)(v:Value)(l:List (List UInt8×Int)):Prop :=
 ∃a cap,v=.slice a l.length cap∧(l=[]∨∃b off,a=some ⟨b,off,none⟩∧b<w.heap.size∧∀j (hj:j<l.length),w.cell? ⟨b,off+j*2,none⟩=some (.string ⟨(l[j]).1.toArray⟩)∧w.cell? ⟨b,off+j*2+1,none⟩=some (.int .i64 (l[j]).2))
theorem Cls.below{w w':World}{v:Value}{l:List (List UInt8×Int)}(h:Cls w v l)(hb:Below w.heap.size w w'):Cls w' v l:=by
 obtain⟨a,cap,rfl,hh⟩:=h
 refine⟨a,cap,rfl,?_⟩
 rcases hh with rfl|⟨b,off,rfl,hl,hc⟩
 ·exact .inl rfl
 ·exact .inr ⟨b,off,rfl,Nat.lt_of_lt_of_le hl hb.size,fun j hj=>⟨(hb.cell (p:=⟨b,off+j*2,none⟩) hl).trans (hc j hj).1,(hb.cell (p:=⟨b,off+j*2+1,none⟩) hl).trans (hc j hj).2⟩⟩
theorem z6c(l:List (List UInt8×Int)):(z2a l).length=l.length*2:=by
 induction l with
 | nil=>rfl
 | cons c l ih=>simp only[z2a,List.flatMap_cons,List.length_append,List.length_cons,List.length_nil] at *;omega
theorem zk5(l:List (List UInt8×Int))(j:Nat)(hj:j<l.length):(z2a l)[j*2]?=some (.string ⟨(l[j]).1.toArray⟩)∧(z2a l)[j*2+1]?=some (.int .i64 (l[j]).2):=by
 induction l generalizing j with
 | nil=>simp at hj
 | cons c l ih =>
  have e:z2a (c::l)=.string ⟨c.1.toArray⟩::.int .i64 c.2::z2a l:=rfl
  cases j with
  | zero=>rw[e];simp
  | succ j =>
   have:=ih j (by simpa using hj)
   rw[e,show (j+1)*2=j*2+1+1 by omega]
   simpa using this
theorem zkb{w:World}{B n:Nat}{e:TypeId}{v:Value}{l:List (List UInt8×Int)}(h:w.ownsRow B e 2 v n (z2a l)):Cls w v l:=by
 have hl:l.length=n:=by have:=h.1;rw[z6c] at this;omega
 rcases h.2 with ⟨rfl,rfl⟩|⟨g,cap,cur,rfl,_,hg,_⟩
 ·have hz:l=[]:=List.length_eq_zero_iff.1 hl
  subst hz
  exact⟨none,0,rfl,.inl rfl⟩
 ·refine⟨some ⟨g,0,none⟩,cap,by rw[hl],.inr ⟨g,0,rfl,(Array.getElem?_eq_some_iff.1 hg).1,fun j hj=>?_⟩⟩
  have c:=zk5 l j hj
  have a0:=h.cells (g:=g) rfl (j*2) _ c.1
  have a1:=h.cells (g:=g) rfl (j*2+1) _ c.2
  have e0:(⟨g,0,none⟩:Addr).add (j*2)=⟨g,0+j*2,none⟩:=by unfold Addr.add;split <;> simp_all
  have e1:(⟨g,0,none⟩:Addr).add (j*2+1)=⟨g,0+j*2+1,none⟩:=by unfold Addr.add;split <;> simp_all
  rw[e0] at a0
  rw[e1] at a1
  exact⟨a0,a1⟩
end
section
open Go.RowKit
theorem zev(l:List (List UInt8×Int))(v:Value)(W:Int)(w:World)(hcl:Cls w v l)(hbd:∀c∈l,0≤c.2∧c.2≤2)(hlen:l.length≤1099511627776)(hW0 : -9223372036854775808≤W)(hW1:W≤9223372036854775807) :
 Calls Tryz.prog 201 #[v,.int .i64 W] w fun e w'=>e=.returned (.int .i64 (fitN l W))∧Below w.heap.size w w':=by
 obtain⟨a,cap,rfl,hh⟩:=hcl
 have HBD:Hid (∀c∈l,0≤c.2∧c.2≤2):=hbd
 clear hbd
 go_enter Tryz.func201,Tryz.ntmps201
 go_wp2
 go_loopw [1,9] (fun x i wr=>∃k:Nat,k≤l.length∧i=.int .i64 k∧x=.int .i64 (W - z05 (l.take k))∧Hid (Fit l W k)∧Below w.heap.size w wr) (fun _ i _=>l.length - (intOf i).toNat)
 case atStart=>exact⟨0,Nat.zero_le _,rfl,by simp[z05],fun j hj=>by omega,Below.refl _ _⟩
 case round =>
  obtain⟨k,hk,rfl,rfl,hfit,hbw⟩:=hrel
  have hwb:=z27 l HBD.out k
  have hwW:k=0∨z05 (l.take k)≤W:=by
   cases k with
   | zero=>exact .inl rfl
   | succ k=>exact .inr (hfit.out k (by omega)).2
  have hw0:k=0->z05 (l.take k)=0:=fun e=>by subst e;rfl
  have hsz:=hbw.size
  by_cases hlt:k<l.length
  ·have hlt':(k:Int)<(l.length:Int):=by omega
   have hne:l≠[]:=fun e=>by rw[e] at hlt;simp at hlt
   obtain⟨b,off,rfl,hb,hc⟩:=hh.resolve_left hne
   obtain⟨T,V,hTV⟩:∃T V,l[k]=(T,V):=⟨_,_,rfl⟩
   have hV:=HBD.out l[k] (List.getElem_mem hlt)
   have c0:wr.cell? ⟨b,off+k*2,none⟩=some (.string ⟨T.toArray⟩):=by
    have:=(hc k hlt).1;rw[hTV] at this;exact (hbw.cell (p:=⟨b,off+k*2,none⟩) hb).trans this
   have c1:wr.cell? ⟨b,off+k*2+1,none⟩=some (.int .i64 V):=by
    have:=(hc k hlt).2;rw[hTV] at this;exact (hbw.cell (p:=⟨b,off+k*2+1,none⟩) hb).trans this
   have HS:Hid (z05 (l.take (k+1))=z05 (l.take k)+V):=by show _=_;rw[z2y l k hlt,hTV]
   have HX:Hid (tx l k=T):=by show _=_;rw[zqa hlt,hTV]
   rw[hTV] at hV
   obtain⟨X,hX⟩:∃X,z05 (l.take k)=X:=⟨_,rfl⟩
   rw[hX] at HS hwb hwW hw0
   rw[hX]
   simp only at hV
   have hr0 : -9223372036854775808≤W - X:=by omega
   have hr1:W - X≤9223372036854775807:=by omega
   clear hh hc hTV hX hne
   by_cases h10:T=[10]
   ·have HE:Hid (fitN l W=k):=z6j l W k hk hfit.out (fun _=>.inl (by rw[HX.out,h10]))
    have h10':(T==[10])=true:=by rw[h10];rfl
    go_wp2
    go_ret
    rw[HE.out]
    exact⟨rfl,hbw.alloc hsz _⟩
   ·have h10':(T==[10])=false:=by simpa using h10
    by_cases hgt:W - X<V
    ·have HE:Hid (fitN l W=k):=z6j l W k hk hfit.out (fun _=>.inr (by rw[HS.out];omega))
     go_wp2
     go_ret
     rw[HE.out]
     exact⟨rfl,hbw.alloc hsz _⟩
    ·have HF:Hid (Fit l W (k+1)):=fun j hj=>by
      by_cases e:j=k
      ·subst e;rw[HX.out,HS.out];exact⟨h10,by omega⟩
      ·exact hfit.out j (by omega)
     go_wp2
     go_roundw
     case rel=>exact⟨k+1,by omega,by go_num,by rw[HS.out];congr 1;omega,HF,hbw.alloc hsz _⟩
     case measure=>simp[intOf];omega
  ·have hlt':¬(k:Int)<(l.length:Int):=by omega
   have HE:Hid (fitN l W=k):=z6j l W k hk hfit.out (fun h=>absurd h hlt)
   have hkl:k=l.length:=by omega
   clear hh
   go_wp2
   go_ret
   rw[HE.out]
   exact⟨by rw[hkl];rfl,hbw⟩
theorem zbx(l:List (List UInt8×Int))(v:Value)(w:World)(hcl:Cls w v l)(hlen:l.length≤1099511627776) :
 Calls Tryz.prog 202 #[v] w fun e w'=>e=.returned (.int .i64 (z1w l l.length))∧Below w.heap.size w w':=by
 obtain⟨a,cap,rfl,hh⟩:=hcl
 go_enter Tryz.func202,Tryz.ntmps202
 go_wp2
 go_loopw [3] (fun i wr=>∃k:Nat,k≤l.length∧i=.int .i64 ((k:Int) - 1)∧Hid (z1w l l.length=z1w l k)∧Below w.heap.size w wr) (fun i _=>(intOf i+1).toNat)
 case atStart=>exact⟨l.length,Nat.le_refl _,rfl,rfl,Below.refl _ _⟩
 case round =>
  obtain⟨k,hk,rfl,hE,hbw⟩:=hrel
  have hsz:=hbw.size
  cases k with
  | zero =>
   clear hh
   go_wp2
   go_ret
   rw[hE.out]
   exact⟨rfl,hbw⟩
  | succ k =>
   have hlt:k<l.length:=by omega
   have hne:l≠[]:=fun e=>by rw[e] at hlt;simp at hlt
   obtain⟨b,off,rfl,hb,hc⟩:=hh.resolve_left hne
   obtain⟨T,V,hTV⟩:∃T V,l[k]=(T,V):=⟨_,_,rfl⟩
   have c0:wr.cell? ⟨b,off+k*2,none⟩=some (.string ⟨T.toArray⟩):=by
    have:=(hc k hlt).1;rw[hTV] at this;exact (hbw.cell (p:=⟨b,off+k*2,none⟩) hb).trans this
   have HX:Hid (tx l k=T):=by show _=_;rw[zqa hlt,hTV]
   have hki:((k+1:Nat):Int) - 1=(k:Int):=by omega
   rw[hki]
   clear hh hc hTV hne
   by_cases h32:T=[32]
   ·have HE:Hid (z1w l l.length=k):=by show _=_;rw[hE.out];simp only[z1w];rw[if_pos (by rw[HX.out,h32])]
    have h32':(T==[32])=true:=by rw[h32];rfl
    go_wp2
    go_ret
    rw[HE.out]
    exact⟨rfl,hbw⟩
   ·have h32':(T==[32])=false:=by simpa using h32
    have HE:Hid (z1w l l.length=z1w l k):=by show _=_;rw[hE.out];simp only[z1w];rw[if_neg (by rw[HX.out];exact h32)]
    go_wp2
    go_roundw
    case rel=>exact⟨k,by omega,by go_num,HE,hbw⟩
    case measure=>simp[intOf]
end
section
open Go.RowKit
theorem zep(s:ByteArray)(w:World)(ht:z0y w)(hs:s.size≤1099511627776) :
 Calls Tryz.prog 137 #[.string s] w fun e w'=>e=.returned (.int .i64 (z05 (clus (z0p s.data.toList))))∧Below w.heap.size w w':=by
 have hsl:s.data.toList.length=s.size:=by rw[Array.length_toList];rfl
 have hR:=z26 s.data.toList
 have hC:=z47 (z0p s.data.toList)
 rw[hsl] at hR
 have hbd:=z8x (z0p s.data.toList)
 have G:Hid (Calls Tryz.prog 162 #[.string s] w fun e w'=>∃v,e=.returned v∧Cls w' v (clus (z0p s.data.toList))∧Below w.heap.size w w'):=by
  refine (z6l s w ht hs).mono ?_
  rintro e w1 ⟨v,rfl,o,b⟩
  exact⟨v,rfl,zkb o,b⟩
 obtain⟨l,hl⟩:∃l,clus (z0p s.data.toList)=l:=⟨_,rfl⟩
 rw[hl] at G hC hbd
 have HL:Hid (clus (z0p s.data.toList)=l):=hl
 have HBD:Hid (∀c∈l,0≤c.2∧c.2≤2):=hbd
 clear hl hsl ht hbd
 go_enter Tryz.func137,Tryz.ntmps137
 go_wp2_with fail
 refine G.out.mono ?_
 rintro e w1 ⟨v1,rfl,⟨a,cap,rfl,hh⟩,b1⟩
 have hs1:=b1.size
 clear G
 go_wp2
 go_loopw [3,9] (fun t i wr=>∃k:Nat,k≤l.length∧i=.int .i64 k∧t=.int .i64 (z05 (l.take k))∧Below w1.heap.size w1 wr) (fun _ i _=>l.length - (intOf i).toNat)
 case atStart=>exact⟨0,Nat.zero_le _,rfl,rfl,Below.refl _ _⟩
 case round =>
  obtain⟨k,hk,rfl,rfl,hbw⟩:=hrel
  have hwb:=z27 l HBD.out k
  have hsz:=hbw.size
  by_cases hlt:k<l.length
  ·have hlt':(k:Int)<(l.length:Int):=by omega
   have hne:l≠[]:=fun e=>by rw[e] at hlt;simp at hlt
   obtain⟨b,off,rfl,hb,hc⟩:=hh.resolve_left hne
   obtain⟨T,W,hTW⟩:∃T W,l[k]=(T,W):=⟨_,_,rfl⟩
   have hW:=HBD.out l[k] (List.getElem_mem hlt)
   have c0:wr.cell? ⟨b,off+k*2,none⟩=some (.string ⟨T.toArray⟩):=by
    have:=(hc k hlt).1;rw[hTW] at this;exact (hbw.cell (p:=⟨b,off+k*2,none⟩) hb).trans this
   have c1:wr.cell? ⟨b,off+k*2+1,none⟩=some (.int .i64 W):=by
    have:=(hc k hlt).2;rw[hTW] at this;exact (hbw.cell (p:=⟨b,off+k*2+1,none⟩) hb).trans this
   have HS:Hid (z05 (l.take (k+1))=z05 (l.take k)+W):=by show _=_;rw[z2y l k hlt,hTW]
   rw[hTW] at hW
   obtain⟨X,hX⟩:∃X,z05 (l.take k)=X:=⟨_,rfl⟩
   rw[hX] at HS hwb
   rw[hX]
   simp only at hW
   clear hh hc hTW hX hne
   go_wp2
   go_roundw
   case rel=>exact⟨k+1,by omega,by go_num,by rw[HS.out],hbw.alloc hsz _⟩
   case measure=>simp[intOf];omega
  ·have hlt':¬(k:Int)<(l.length:Int):=by omega
   have HE:Hid (l.take k=l):=List.take_of_length_le (by omega)
   clear hh
   go_wp2
   go_ret
   rw[HL.out,HE.out]
   exact⟨rfl,b1.trans (hbw.mono hs1)⟩
end
end Go.Proofs.YtnponhbgicbkcaaGreatDoor
