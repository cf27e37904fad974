import Derived.Test.YtaanagpadfcmlaaGreatDoorQ20
import Derived.Lib.AtoiErrMem
set_option linter.all false
set_option maxRecDepth 100000
set_option maxHeartbeats 16000000
namespace Go.Proofs.YtaanagpadfcmlaaGreatDoor
open Go.RowKit Go.Proofs.Tryz
theorem readNumber_yes(l:Nat)(s:ByteArray)(i:Nat)(p A q:Value)(w:World)(h:PR w l s i p A q)(Q:s.size<=1099511627776)(hi:i<=s.size)(d:¬(run aP s (sk s i)=sk s i\/sk s i+6<run aP s (sk s i)\/(sk s i+1<run aP s (sk s i)/\dh s (sk s i)=48))):
 Cw 217 #[Pq l] w λe w'=>e=Rw (.tuple #[Iq (dv s (sk s i) (run aP s (sk s i)-sk s i)),Iq (sk s i:Int)])/\PR w' l s (run aP s (sk s i)) p A q/\w.grownBy w' (some l):=by
 have f:=qH<|digits_any l s i p A q w h Q hi;have c:=dX s i hi;obtain⟨j,C⟩:=ad (sk s i);rw[C]at f d c⊢;have a:=h_ aP s j c;have g:=g_ aP s j;have b:=A3 s j;obtain⟨k,D⟩:=ad (run aP s j);rw[D]at f d a g b⊢;have I:=qK s j k a;have m:=qH<|atoi_dv s j k dg a dg b;have L:j<k->∀hh,(s.extract j k)[0]'hh=s[j]' dg:=λO hh=>by have:=ext_get s j k 0 dg a;rw[dI rd,Ed]at this;exact this
 have y:∀hh:j<s.size,dh s j=(s[j]'hh).toNat:=λhh=>dT hh;obtain⟨t,F⟩:=ad (s.extract j k);rw[F]at f I m;obtain⟨n,E⟩:=ad (dv s j (k-j));rw[E]at m⊢;have z:0<t.size/\t.size<=6:=dg;have G:1<t.size->∀hh:0<t.size,(t[0]'hh).toNat≠48:=λh1 hh W=>rd;have o:=qH<|λw=>G6 t n dg m w;have P:t.toList.isEmpty=false:=by
  cases hh:t.toList.isEmpty with
  |false=>rfl
  |true=>
   exfalso;rw[List.isEmpty_iff,ByteArray.toList_eq]at hh;have N:t.data.toList.length=0:=by rw[hh];rfl
   rw[dZ]at N;have U:t.size=t.data.size:=rfl;omega
 clear h C d L y D F I a g c b E m;obtain⟨h0n,V⟩:=z;have M:(0:Int)<(t.size:Int):=dg;have v:¬(6:Int)<(t.size:Int):=dg;have S:=decide_eq_false v;by_cases h1:1<t.size;focus
  have r:(1:Int)<(t.size:Int):=dg;obtain⟨x,R⟩:=ad ((t[0]'h0n).toNat);have H:x≠48:=by rw[<-R];exact G h1 h0n
  have T:((x:Int)==48)=false:=by simp;omega
 rotate_left;focus have r:¬(1:Int)<(t.size:Int):=dg
 rotate_left;all_goals clear G;go_enter func217,ntmps217;go_wp2_with fail;refine f.mono ?_;rintro e X ⟨rfl,h1,B⟩;have K:=qH<|h1;have J:=qH<|B;clear h1 B f;go_wp2_with(go_at_call 241;refine(o _).mono ?_;rintro e Y ⟨rfl,u,rfl⟩);go_ret2;exact⟨rfl,K.below (Lib.bytesWorld_below _ _ _),gr_trans J (eh (Lib.bytesWorld_below _ _ _))⟩
