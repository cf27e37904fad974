import Derived.Test.YtnponhbgicbkcaaGreatDoorD24
import Derived.Test.YtnponhbgicbkcaaGreatDoorD29
import Derived.Test.YtnponhbgicbkcaaGreatDoorD28
set_option linter.unusedVariables false
set_option maxRecDepth 100000
set_option maxHeartbeats 16000000
namespace Go.Proofs.YtnponhbgicbkcaaGreatDoor
section
open Go.RowKit
theorem num_any(n:Int)(w:World):Calls Tryz.prog 9 #[.int .i64 n] w fun e w'=>e=.returned (.int .i64 n)∧w'=w:=by go_enter Tryz.func9,Tryz.ntmps9;go_wp2;go_ret;exact⟨rfl,rfl⟩
theorem pTree_good{s:ByteArray}{L:List Nd}(h:pTree s=.ok L):L.length≤4000∧∀j,(nth L j).kids.length≤4000:=by
 unfold pTree at h;split at h;·cases h
 ·rename_i hl;cases hp:pNodeF s (s.size+1) (-1) 0 ⟨0,[],none⟩with
  |error b=>rw[hp]at h;cases h
  |ok st=>
   rw[hp]at h;have hf:=(node_fwd (s:=s) _ _ _ _ _ (by show(-1:Int)<0;decide) ⟨Nat.zero_le _,Nat.le_refl _,fun j=>Nat.zero_le _⟩ hp).1.good;have e:st.L=L:=by
    unfold pRoot pLast at h;dsimp only at h;split at h;·cases h
    ·split at h;·cases h
     ·injection h
   have h1:=hf.il;have h2:=hf.ll;rw[e]at h2;refine⟨by omega,fun j=>?_⟩;have h3:=hf.kl j;rw[e]at h3;omega
theorem parse_of_ok{s:ByteArray}{L:List Nd}(h:pTree s=.ok L):parse s=.ok L:=by rw[<-tree_eq,h];rfl
theorem parse_of_err{s:ByteArray}{x:Option (Nat×Nat)}(h:pTree s=.error x):parse s=.error (errC x,errP x):=by
 rw[<-tree_eq,h];cases x with
 |none=>rfl
 |some q=>rfl
theorem err_pos{s:ByteArray}{x:Option (Nat×Nat)}(h:pTree s=.error x):1≤errC x:=by
 cases x with
 |none=>exact Nat.le_refl _
 |some q=>obtain⟨c,p⟩:=q;have:=(pTree_code h).1;show 1≤c;omega
theorem kS_le{L:List Nd}{a:Nat}:∀b,a≤b->kS L a≤kS L b
  | 0, h => by obtain rfl:a=0:=by omega
               exact Nat.le_refl _
  |b+1,h=>by
    by_cases e:a=b+1;·subst e;exact Nat.le_refl _
    ·have:=kS_le (L:=L) (a:=a) b (by omega);show kS L a≤kS L b+(nth L b).kids.length;omega
end
end Go.Proofs.YtnponhbgicbkcaaGreatDoor
