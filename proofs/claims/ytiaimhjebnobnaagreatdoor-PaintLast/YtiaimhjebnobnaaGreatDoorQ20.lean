import Derived.Test.YtiaimhjebnobnaaGreatDoorQ19
import Derived.Lib.AtoiErrMem
set_option linter.all false
set_option maxRecDepth 100000
set_option maxHeartbeats 16000000
namespace Go.Proofs.YtiaimhjebnobnaaGreatDoor
open Go.RowKit Go.Proofs.Tryz
theorem readNumber_yes(rb:Nat)(s:ByteArray)(i:Nat)(av nv fv:Value)(w:World)(h:PR w rb s i av nv fv)(hs:s.size<=1099511627776)(hi:i<=s.size)
 (MM:¬(run aW s (sk s i)=sk s i\/sk s i+6<run aW s (sk s i)\/(sk s i+1<run aW s (sk s i)/\dL s (sk s i)=48))):
 Cw 209 #[Pq rb] w fun e w'=>e=Rw (.tuple #[Iq (dv s (sk s i) (run aW s (sk s i)-sk s i)),Iq (sk s i:Int)])/\PR w' rb s (run aW s (sk s i)) av nv fv/\w.grownBy w' (some rb):=by
 have CA:=qH<|digits_any rb s i av nv fv w h hs hi;have oe:=fw s i hi;obtain⟨j,hj⟩:=ag (sk s i);rw[hj]at CA MM oe⊢;have dj:=jN aW s j oe;have Fw:=jM aW s j;have hdr:=F4 s j;obtain⟨k,hk⟩:=ag (run aW s j);rw[hk]at CA MM dj Fw hdr⊢;have hz:=uX s j k dj;have HA:=qH<|atoi_dv s j k (by omega) dj (by omega) hdr;have h0:j<k->∀hh,(s.extract j k)[0]'hh=s[j]'(by omega):=fun vn hh=>by have:=ext_get s j k 0 (by omega) dj;rw[eR (by grind),JL]at this;exact this
 have YT:∀hh:j<s.size,dL s j=(s[j]'hh).toNat:=fun hh=>fh hh;obtain⟨t,ht⟩:=ag (s.extract j k);rw[ht]at CA hz HA;obtain⟨n,hn⟩:=ag (dv s j (k-j));rw[hn]at HA⊢;have Ps:0<t.size/\t.size<=6:=by omega
 have hv:1<t.size->∀hh:0<t.size,(t[0]'hh).toNat≠48:=fun h1 hh he=>by grind
 have cZ:=qH<|fun w=>N1 t n (by omega) HA w;have bZ:t.toList.isEmpty=false:=by
  cases hh:t.toList.isEmpty with
  |false=>rfl
  |true=>
   exfalso;rw[List.isEmpty_iff,ByteArray.toList_eq]at hh;have h2:t.data.toList.length=0:=by rw[hh];rfl
   rw[fV]at h2;have h3:t.size=t.data.size:=rfl;omega
 clear h hj MM h0 YT hk ht hz dj Fw oe hdr hn HA;obtain⟨h0n,h6⟩:=Ps;have YF:(0:Int)<(t.size:Int):=by omega
 have T4:¬(6:Int)<(t.size:Int):=by omega
 have e6:=decide_eq_false T4;by_cases h1:1<t.size;focus
  have xE:(1:Int)<(t.size:Int):=by omega
  obtain⟨x,hx⟩:=ag ((t[0]'h0n).toNat);have Zs:x≠48:=by rw[<-hx];exact hv h1 h0n
  have ex:((x:Int)==48)=false:=by simp;omega
 rotate_left;focus have xE:¬(1:Int)<(t.size:Int):=by omega
 rotate_left;all_goals clear hv;go_enter func209,ntmps209;go_wp2_with fail;refine CA.mono ?_;rintro e w1 ⟨rfl,h1,g1⟩;have HR:=qH<|h1;have HG:=qH<|g1;clear h1 g1 CA;go_wp2_with(go_at_call 232;refine(cZ _).mono ?_;rintro e w2 ⟨rfl,u,rfl⟩);go_ret2;exact⟨rfl,HR.below (Lib.bytesWorld_below _ _ _),gr_trans HG (fG (Lib.bytesWorld_below _ _ _))⟩
