import Derived.Test.YtehgehanbnkdiaaGreatDoorQ52
namespace Go.Proofs.YtehgehanbnkdiaaGreatDoor.paneRefuses
open Go.ChangeShapes Go.WideShapes Go.ChangeAt Go.RowKit
open Go.ChangeMaps (open_string shut_string)
set_option linter.all false
theorem RM:Tryz.pinned.checked.prog.funcs.any Func.goes=false:=pt
theorem QO:false=Rows.paneRefusesUptoRow.goesBy Tryz.pinned.checked.prog:=by
 have h:∀f,Tryz.pinned.checked.prog.goes f=false:=λf=>by
  unfold Program.goes;rw[RM,Bool.and_false,Bool.or_false,JD];intro g _;cases a:Tryz.pinned.checked.prog.funcs[g]? with
  |none=>simp
  |some fn=>have:=(Array.any_eq_false.1 RM) g (aj.1 a).1;rw[(aj.1 a).2]at this;simpa using this
 unfold OpenClaim.goesBy Program.goesAt Program.goesFrom;rw[show Rows.paneRefusesUptoRow.start=.entering from rfl];cases Tryz.pinned.checked.prog.funcNamed Rows.paneRefusesUptoRow.func with
 |none=>rfl
 |some f=>simp[h f]
theorem plain(f:FuncId)(fn:Func)(d:Tryz.pinned.checked.prog.funcNamed Rows.paneRefusesUptoRow.func=some f)(a:Tryz.pinned.checked.prog.funcs[f]?=some fn):
 true=Tryz.pinned.checked.prog.looks []/\∀(j:Nat) t,fn.params[j]?=some t->Tryz.pinned.checked.prog.wantsStandIn t=false:=by
 obtain rfl:f=4:=ic ((show Tryz.prog.funcNamed Rows.paneRefusesUptoRow.func=some 4 by kernel_rfl).symm.trans d)|>.symm;obtain rfl:fn=Tryz.f4:=(ic (Tryz.func4.symm.trans a)).symm;refine⟨pt,λj t c=>?_⟩;rw[Tryz.params4]at c;have b:=Array.mem_of_getElem? c;simp only[List.mem_toArray,kD,List.not_mem_nil,or_false]at b;rcases b with rfl|rfl|rfl|rfl|rfl|rfl;.exact(show Tryz.prog.wantsStandIn 3=false by kernel_rfl)
 .exact(show Tryz.prog.wantsStandIn 3=false by kernel_rfl)
 .exact(show Tryz.prog.wantsStandIn 22=false by kernel_rfl)
 .exact(show Tryz.prog.wantsStandIn 9=false by kernel_rfl)
 .exact(show Tryz.prog.wantsStandIn 3=false by kernel_rfl)
 .exact(show Tryz.prog.wantsStandIn 3=false by kernel_rfl)
theorem proved:Rows.PaneRefusesUptoCardSaid:=
 Claim7.holds_tied_plain_at .later [] _ _ _ _ Uq (λ_ h=>by cases h) (by as_aux_lemma=>kernel_rfl) (λ_ h=>by cases h) paneRefusesUpto_row_tie rfl ⟨rfl,rfl⟩ (by as_aux_lemma=>kernel_rfl) rfl plain QO
#print axioms proved
end Go.Proofs.YtehgehanbnkdiaaGreatDoor.paneRefuses
