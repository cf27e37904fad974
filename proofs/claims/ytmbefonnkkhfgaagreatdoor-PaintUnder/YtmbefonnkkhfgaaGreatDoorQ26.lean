import Derived.Test.YtmbefonnkkhfgaaGreatDoorQ00
import Derived.Test.YtmbefonnkkhfgaaGreatDoorQ25
import Derived.Lib.AtoiErrMem
set_option linter.unusedVariables false
set_option maxRecDepth 100000
set_option maxHeartbeats 16000000
namespace Go.Proofs.YtmbefonnkkhfgaaGreatDoor
section
open Go.RowKit Go.Proofs.Tryz
theorem readNumber_yes(rb:Nat)(s:ByteArray)(i:Nat)(av nv fv:Value)(w:World)(h:PR w rb s i av nv fv)(hs:s.size≤1099511627776)(hi:i≤s.size)
 (hok:¬(run digit s (sk s i)=sk s i∨sk s i+6<run digit s (sk s i)∨(sk s i+1<run digit s (sk s i)∧bat s (sk s i)=48))):
 Calls prog 167 #[Pq rb] w fun e w'=>e=.returned (.tuple #[Iq (dv s (sk s i) (run digit s (sk s i)-sk s i)),Iq (sk s i:Int)])∧PR w' rb s (run digit s (sk s i)) av nv fv∧w.grownBy w' (some rb):=by
 have CA:=qH<|digits_any rb s i av nv fv w h hs hi;have hjs:=sk_le s i hi;obtain⟨j,hj⟩:=nmd (sk s i);rw[hj]at CA hok hjs⊢;have hkl:=run_le digit s j hjs;have hkg:=run_ge digit s j;have hdr:=digits_run s j;obtain⟨k,hk⟩:=nmd (run digit s j);rw[hk]at CA hok hkl hkg hdr⊢;have hz:=ext_size s j k hkl;have HA:=qH<|atoi_dv s j k (by omega) hkl (by omega) hdr;have h0:j<k->∀hh,(s.extract j k)[0]'hh=s[j]'(by omega):=fun hjk hh=>by have:=ext_get s j k 0 (by omega) hkl;rw[List.getElem?_eq_getElem (by rw[Array.length_toList];exact hh),Option.some.injEq]at this;exact this
 have hbj:∀hh:j<s.size,bat s j=(s[j]'hh).toNat:=fun hh=>bat_in hh;obtain⟨t,ht⟩:=nmd (s.extract j k);rw[ht]at CA hz HA;obtain⟨n,hn⟩:=nmd (dv s j (k-j));rw[hn]at HA⊢;have hts:0<t.size∧t.size≤6:=by omega
 have hv:1<t.size->∀hh:0<t.size,(t[0]'hh).toNat≠48:=fun h1 hh he=>by apply hok;right;right;refine⟨by omega,?_⟩;subst ht;rw[hbj (by omega),<-h0 (by omega) hh];exact he
 have HAT:=qH<|fun w=>atoi_lib t n (by omega) HA w;have hne:t.toList.isEmpty=false:=by
  cases hh:t.toList.isEmpty with
  |false=>rfl
  |true=>
   exfalso;rw[List.isEmpty_iff,ByteArray.toList_eq]at hh;have h2:t.data.toList.length=0:=by rw[hh];rfl
   rw[Array.length_toList]at h2;have h3:t.size=t.data.size:=rfl;omega
 clear h hj hok h0 hbj hk ht hz hkl hkg hjs hdr hn HA;obtain⟨h0n,h6⟩:=hts;have h0':(0:Int)<(t.size:Int):=by omega
 have h6':¬(6:Int)<(t.size:Int):=by omega
 have e6:=decide_eq_false h6';by_cases h1:1<t.size
 ·have h1':(1:Int)<(t.size:Int):=by omega
  obtain⟨x,hx⟩:=nmd ((t[0]'h0n).toNat);have hx48:x≠48:=by rw[<-hx];exact hv h1 h0n
  have ex:((x:Int)==48)=false:=by simp;omega
  clear hv;go_enter func167,ntmps167;go_wp2_with fail;refine CA.mono ?_;rintro e w1 ⟨rfl,h1,g1⟩;have HR:=qH<|h1;have HG:=qH<|g1;clear h1 g1 CA;go_wp2_with(go_at_call 185;refine(HAT _).mono ?_;rintro e w2 ⟨rfl,u,rfl⟩);go_ret2;exact⟨rfl,HR.below (Lib.bytesWorld_below _ _ _),gr_trans HG (gr_below (Lib.bytesWorld_below _ _ _))⟩
 ·have h1':¬(1:Int)<(t.size:Int):=by omega
  clear hv;go_enter func167,ntmps167;go_wp2_with fail;refine CA.mono ?_;rintro e w1 ⟨rfl,h1,g1⟩;have HR:=qH<|h1;have HG:=qH<|g1;clear h1 g1 CA;go_wp2_with(go_at_call 185;refine(HAT _).mono ?_;rintro e w2 ⟨rfl,u,rfl⟩);go_ret2;exact⟨rfl,HR.below (Lib.bytesWorld_below _ _ _),gr_trans HG (gr_below (Lib.bytesWorld_below _ _ _))⟩
end
end Go.Proofs.YtmbefonnkkhfgaaGreatDoor
