import Derived.Test.YtbeiapdobffpiaaGreatDoorQ22
import Derived.Lib.AtoiErrMem
set_option linter.all false
set_option maxRecDepth 100000
set_option maxHeartbeats 16000000
namespace Go.Proofs.YtbeiapdobffpiaaGreatDoor
open Go.RowKit Go.Proofs.Tryz
theorem readNumber_yes(rb:Nat)(s:ByteArray)(i:Nat)(av nv fv:Value)(w:World)(h:PR w rb s i av nv fv)(hs:s.size<=1099511627776)(hi:i<=s.size)
 (OQ:¬(run aU s (sk s i)=sk s i\/sk s i+6<run aU s (sk s i)\/(sk s i+1<run aU s (sk s i)/\dh s (sk s i)=48))):
 Cw 167 #[Pq rb] w fun e w'=>e=Rw (.tuple #[Iq (dv s (sk s i) (run aU s (sk s i)-sk s i)),Iq (sk s i:Int)])/\PR w' rb s (run aU s (sk s i)) av nv fv/\w.grownBy w' (some rb):=by
 have CA:=qH<|digits_any rb s i av nv fv w h hs hi;have nu:=eh s i hi;obtain⟨j,hj⟩:=aj (sk s i);rw[hj]at CA OQ nu⊢;have dD:=iK aU s j nu;have OL:=iJ aU s j;have hdr:=Ca s j;obtain⟨k,hk⟩:=aj (run aU s j);rw[hk]at CA OQ dD OL hdr⊢;have hz:=rQ s j k dD;have HA:=qH<|atoi_dv s j k (by omega) dD (by omega) hdr;have h0:j<k->∀hh,(s.extract j k)[0]'hh=s[j]'(by omega):=fun tA hh=>by have:=ext_get s j k 0 (by omega) dD;rw[dN (by grind),Fh]at this;exact this
 have SI:∀hh:j<s.size,dh s j=(s[j]'hh).toNat:=fun hh=>ea hh;obtain⟨t,ht⟩:=aj (s.extract j k);rw[ht]at CA hz HA;obtain⟨n,hn⟩:=aj (dv s j (k-j));rw[hn]at HA⊢;have X3:0<t.size/\t.size<=6:=by omega
 have hv:1<t.size->∀hh:0<t.size,(t[0]'hh).toNat≠48:=fun h1 hh he=>by grind
 have cH:=qH<|fun w=>Jj t n (by omega) HA w;have bG:t.toList.isEmpty=false:=by
  cases hh:t.toList.isEmpty with
  |false=>rfl
  |true=>
   exfalso;rw[List.isEmpty_iff,ByteArray.toList_eq]at hh;have h2:t.data.toList.length=0:=by rw[hh];rfl
   rw[j9]at h2;have h3:t.size=t.data.size:=rfl;omega
 clear h hj OQ h0 SI hk ht hz dD OL nu hdr hn HA;obtain⟨h0n,h6⟩:=X3;have Zp:(0:Int)<(t.size:Int):=by omega
 have Of:¬(6:Int)<(t.size:Int):=by omega
 have e6:=decide_eq_false Of;by_cases h1:1<t.size;focus
  have tK:(1:Int)<(t.size:Int):=by omega
  obtain⟨x,hx⟩:=aj ((t[0]'h0n).toNat);have Tt:x≠48:=by rw[<-hx];exact hv h1 h0n
  have ex:((x:Int)==48)=false:=by simp;omega
 rotate_left;focus have tK:¬(1:Int)<(t.size:Int):=by omega
 rotate_left;all_goals clear hv;go_enter func167,ntmps167;go_wp2_with fail;refine CA.mono ?_;rintro e w1 ⟨rfl,h1,g1⟩;have HR:=qH<|h1;have HG:=qH<|g1;clear h1 g1 CA;go_wp2_with(go_at_call 196;refine(cH _).mono ?_;rintro e w2 ⟨rfl,u,rfl⟩);go_ret2;exact⟨rfl,HR.below (Lib.bytesWorld_below _ _ _),gr_trans HG (eF (Lib.bytesWorld_below _ _ _))⟩
